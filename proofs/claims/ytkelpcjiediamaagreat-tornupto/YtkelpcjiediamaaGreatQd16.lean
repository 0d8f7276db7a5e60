import Derived.Test.YtkelpcjiediamaaGreatQd15
import Derived.Laws.BytesString
import Derived.BigRegion
set_option maxRecDepth 100000
set_option maxHeartbeats 0
set_option linter.all false
namespace Go.Proofs.YtkelpcjiediamaaGreat
def aFd:=@Go.World.ownsRow_lit
open Go renaming Calls→aU,TypeId→dw,Value→az,World→aj,maxLen→dU
open Go.Ending renaming returned→aT
open Go.IntKind renaming i64→ah
open Go.Obj renaming cells→aC
open Go.RowKit renaming intOf→fH
open Go.Value renaming agg→gY,bool→aB,int→ag,pointer→ay,slice→aJ,tuple→dK
open Option renaming none→af,some→ae
open Go.Proofs.Tryz
open Go.RowKit Go.Maps
def aoa(w:aj)(m b:Int):aU prog 70 #[ag ah m,ag ah b] w fun e w'=>e=aT (.bool<|decide<|1<=m/\m<=b)/\w=w':=by
 by_cases h1:1<=m
 ·by_cases h2:m<=b
  ·go_enter func70,ntmps70
   go_wp2
   go_ret;exact⟨by simp[h1,h2],rfl⟩
  ·go_enter func70,ntmps70
   go_wp2
   go_ret;exact⟨by simp[h2],rfl⟩
 ·go_enter func70,ntmps70
  go_wp2
  go_ret;have:decide (1<=m)=false:=qW (by omega);exact⟨by rw[this]<;>rfl,rfl⟩
def jg(P Q T K:Int):Value:=gY #[ag ah P,ag ah Q,ag ah T,ag ah K]
def Good(P Q T K:Int):Prop:=(1<=P/\P<=6)/\(1<=Q/\Q<=4)/\(1<=T/\T<=50)/\(1<=K/\K<=16)
def rq:aH:=⟨[],0,fun _=>af⟩
def yJ(P Q T K:Int)(pv:az)(pl:List PL):HS:=⟨P,Q,T,K,aJ af 0 0,[],false,wE,false,0,pv,pl,aJ af 0 0,[]⟩
def aob(P Q T K:Int)(pv Gf:az)(pl fZ:List PL):(yJ P Q T K pv pl).cells.toArray.setIfInBounds 68 Gf=(yJ P Q T K Gf fZ).cells.toArray:=by kernel_rfl
def BQ{w:aj}(o:Obj){k:Nat}(hk:k=w.heap.size):(w.alloc o).heap[k]? =ae o:=by subst hk;exact aDY w o
def iP(pl:List PL):Prop:=∀(i j:Nat) (p q:PL),i≠j->pl[i]? =ae p->pl[j]? =ae q->∀k,BP p.lb p.bm p.v k->BP q.lb q.bm q.v k->False
def Wh{α:Type}{l:List α}{x e:α}{i:Nat}(h:(l++[x])[i]? =ae e):(i<l.length/\l[i]? =ae e)\/(i=l.length/\e=x):=by
 rcases E5 i l.length with hi|hi
 ·rw[uz hi]at h;exact .inl ⟨hi,h⟩
 ·rw[xC hi]at h;rcases Nat.eq_or_lt_of_le hi with e2|e2
  ·subst e2;simp at h;exact .inr ⟨rfl,h.symm⟩
  ·have:1<=i-l.length:=by omega
   rw[afe<|by simpa using this]at h;cases h
structure QX(w w':aj)(P Q T K:Int)(k:Nat)(pv:az)(pl:List PL):Prop where
 blk:w'.heap[w.heap.size+1]? =ae (.cells (yJ P Q T K pv pl).cells.toArray 111 (0,0))
 len:pl.length=k
 jU:w'.ownsRow w.heap.size 98 2 pv pl.length (pI pl)
 ed:∀p∈pl,dY w' w.heap.size p.lb p.bm p.v 0 p.s
 new:∀p∈pl,p.s=rq/\p.out=false
 fr:Fr aP w w'
 ap:iP pl
def dY.base{w:aj}{B B' lb bm n:Nat}{v:az}{s:aH}(h:dY w B lb bm v n s)(hB:B'<=B):dY w B' lb bm v n s:=
 ⟨h.blk,BO h.row hB,h.map,eG hB h.hl,eG hB h.hm⟩
def QX.step{w wr X w1 W w3:aj}{P Q T K:Int}{k:Nat}{pv Gf:az}{pl:List PL}(h:QX w wr P Q T K k pv pl)(fX:Fr aP wr X)(hl:dY w1 X.heap.size (X.heap.size+1) X.heap.size (aJ af 0 0) 0 rq)(f1:Fr aP X w1)
 (fW:Fr aP w1 W)(hg:W.grownBy w3 pv.ownBlock)(iO:w3.ownsRow w.heap.size 98 2 Gf (k+1) (pI pl++[ptr<|X.heap.size+1,aB false]))(dX:∀q,Gf.ownBlock=ae q->pv.ownBlock=ae q\/wr.heap.size<=q):
 QX w (w3.setCell ⟨w.heap.size+1,68,af⟩ Gf) P Q T K (k+1) Gf (pl++[⟨X.heap.size+1,X.heap.size,aJ af 0 0,rq,false⟩]):=by
 have hx:=aX h.blk;have fw:Fr aP wr W:=((fX.trans f1 fun _ h=>h.elim).trans fW fun _ h=>h.elim);have f3:Fr (fun q=>pv.ownBlock=ae q) wr w3:=(fw.mono fun _ h=>h.elim).grown hg fun q e=>.inl e;have Kt:pv.ownBlock≠ae (w.heap.size+1):=fun e=>by
  have h1:=iK h.jU e;rw[lM h.blk]at h1;cases h1
 have b3:w3.heap[w.heap.size+1]? =ae (.cells (yJ P Q T K pv pl).cells.toArray 111 (0,0)):=(f3.block _ hx Kt).trans h.blk;have fs:Fr (fun q=>q=w.heap.size+1) w3 (w3.setCell ⟨w.heap.size+1,68,af⟩ Gf):=(Fr.refl (fun q=>q=w.heap.size+1) w3).setCell (p:=⟨w.heap.size+1,68,af⟩) (.inl rfl) _;have f4:Fr (fun q=>pv.ownBlock=ae q\/q=w.heap.size+1) wr (w3.setCell ⟨w.heap.size+1,68,af⟩ Gf):=(f3.mono fun q e=>.inl<|.inl e).trans fs fun q e=>.inl<|.inr e;have eH:=fX.size;refine⟨?_,by simp[h.len],?_,?_,?_,?_,?_⟩
 ·rw[jT b3,aob]
 ·have e1:pI (pl++[⟨X.heap.size+1,X.heap.size,aJ af 0 0,rq,false⟩])=pI pl++[ptr<|X.heap.size+1,aB false]:=by simp[pI,PL.cs]
  rw[e1,iV,h.len];refine fs.ownsRow iO fun q hq e=>?_;subst e;rcases dX _ hq with a|a
  ·exact Kt a
  ·omega
 ·intro p hp;rcases oP.1 hp with hp|hp
  ·refine(h.ed p hp).stay f4 fun q hq hf=>?_;rcases hq with hq|hq
   ·have h0:=iK h.jU hq;rcases(h.ed p hp).tags hf with h1|h1|h1<;>rw[h0]at h1<;>cases h1
   ·have h0:=lM h.blk;subst hq;rcases(h.ed p hp).tags hf with h1|h1|h1<;>rw[h0]at h1<;>cases h1
  ·simp only[oN]at hp;subst hp;have g3:Fr (fun q=>pv.ownBlock=ae q) w1 w3:=(fW.mono fun _ h=>h.elim).grown hg fun q e=>.inl e;have g4:Fr (fun q=>pv.ownBlock=ae q\/q=w.heap.size+1) w1 (w3.setCell ⟨w.heap.size+1,68,af⟩ Gf):=(g3.mono fun q e=>.inl<|.inl e).trans fs fun q e=>.inl<|.inr e;refine(hl.stay g4 fun q hq hf=>?_).base (by have:=h.fr.size;omega);have hqX:X.heap.size<=q:=by
    rcases hf with e|e|e
    ·omega
    ·omega
    ·simp[Value.ownBlock]at e
   rcases hq with hq|hq
   ·have:=(h.jU.lt q hq).2;omega
   ·omega
 ·intro p hp;rcases oP.1 hp with hp|hp
  ·exact h.new p hp
  ·simp only[oN]at hp;subst hp;exact⟨rfl,rfl⟩
 ·exact h.fr.trans f4 (fun q hq=>.inr (by
   rcases hq with hq|hq
   ·exact(h.jU.lt q hq).1
   ·omega))
 ·have old:∀p∈pl,∀k,BP p.lb p.bm p.v k->k<wr.heap.size:=fun p hp k hk=>by
   have hl:=h.ed p hp;rcases hk with rfl|rfl|hk
   ·exact hl.lt
   ·exact hl.map.lt
   ·exact(hl.row.lt k hk).2
  have neu:∀k,BP (X.heap.size+1) X.heap.size (aJ af 0 0) k->X.heap.size<=k:=fun k hk=>by
   rcases hk with rfl|rfl|hk
   ·omega
   ·exact dm _
   ·simp[Value.ownBlock]at hk
  intro i j p q zi hp hq k h1 h2;rcases Wh hp with⟨_,vU⟩|⟨hi,rfl⟩<;>rcases Wh hq with⟨_,sQ⟩|⟨hj,rfl⟩
  ·exact h.ap i j p q zi vU sQ k h1 h2
  ·have:=old p (gz vU) k h1;have:=neu k h2;omega
  ·have:=old q (gz sQ) k h2;have:=neu k h1;omega
  ·omega
def aoc(w:aj){P Q T K:Int}(h:Good P Q T K):aU prog 31 #[jg P Q T K] w fun r w'=>∃xb pv pl,r=aT (dK #[ptr xb,ag ah 0])/\aF w' w.heap.size xb 0 (yJ P Q T K pv pl).yI/\(∀p∈pl,p.s=rq/\p.out=false)/\iP pl/\Fr aP w w':=by
 unfold jg;obtain⟨i0,dR,iE,gG,iU⟩:=aEd (show(prog.info? 98).map (fun i=>(i.zero,i.size,i.bytes))=ae (ae<|gY #[ay af,aB false],2,16)by kernel_rfl);have HG:Hid (Good P Q T K):=h;have HP:Hid (decide (1<=P/\P<=6)=true):=kF h.1;have HQ:Hid (decide (1<=Q/\Q<=4)=true):=kF h.2.1;have HT:Hid (decide (1<=T/\T<=50)=true):=kF h.2.2.1;have HK:Hid (decide (1<=K/\K<=16)=true):=kF h.2.2.2;have vV:=h.2.1.1;have EF:=h.2.1.2;clear h;go_enter func31,ntmps31
 go_wp2_with (go_at_call 70;refine(aoa _ _ _).mono ?_;(first|rw[HP.o]|rw[HQ.o]|rw[HT.o]|rw[HK.o]);rintro e w1 ⟨rfl,rfl⟩)
 go_loopw [32] (fun i w'=>∃k:Nat,(k:Int)<=Q/\i=ag ah k/\∃pv pl,QX w w' P Q T K k pv pl) (fun i _=>(Q-fH i).toNat)
 case atStart=>
  refine⟨0,by omega,rfl,aJ af 0 0,[],?_,rfl,aD9 _ _ _ _,fun p hp=>by simp at hp,fun p hp=>by simp at hp,((Fr.refl _ _).alloc _).alloc _,fun i j p q _ hp=>by simp at hp⟩
  exact BQ _<|by simp
 case round=>
  obtain⟨k,hk,rfl,pv,pl,hm⟩:=hrel
  have HM:Hid (QX w wr P Q T K k pv pl):=hm
  have c50:wr.cell? ⟨w.heap.size+1,68,af⟩=ae pv:=by rw[aK hm.blk];rfl
  have cf:∀o,wr.frozen? ⟨w.heap.size+1,o,af⟩=false:=jS hm.blk
  have hx:=aX hm.blk
  have hlen:=hm.len
  obtain⟨pa,pc,rfl,_⟩:=pq hm.jU
  subst hlen
  clear hm
  by_cases aI:(pl.length:Int)<Q
  ·have Np:pl.length<4:=by omega
   have Kt:Value.ownBlock (.slice pa pl.length pc)≠ae (w.heap.size+1):=We HM.o.jU HM.o.blk<|by decide
   go_wp2_with fail
   go_region_law
    (first
      |(go_simp;go_at_call 71;refine(am2 _).mono ?_;rintro e w1 ⟨rfl,kY,bM⟩
        have L1:Hid (dY w1 wr.drew.heap.size (wr.drew.heap.size+1) wr.drew.heap.size (aJ af 0 0) 0 rq):=kY
        have F1:Hid (Fr aP wr.drew w1):=bM
        have FW:Hid (Fr aP wr w1):=(Fr.dr _).trans bM fun _ h=>h.elim
        have hwz:w.heap.size<=w1.heap.size:=eG HM.o.fr.size FW.o.size
        have q50:w1.cell? ⟨w.heap.size+1,68,af⟩=ae (.slice pa pl.length pc):=(bM.cell (p:=⟨w.heap.size+1,68,af⟩) hx id).trans c50
        have qf:∀o,w1.frozen? ⟨w.heap.size+1,o,af⟩=false:=jS<|(bM.block _ hx id).trans HM.o.blk
        have gJ:w.heap.size+1<w1.heap.size:=fK hx bM.size
        clear kY bM)
      |(refine aEt _ (by rfl) _ _ _ (by rfl) w.heap.size 98 i0 _ 2 16 underlying106 dR iE gG iU rfl (by omega) (.slice pa pl.length pc) pl.length (pI pl) (by rfl) ((FW.o.alloc _).ownsRow HM.o.jU fun _ _=>id) ⟨w1.heap.size,0,af⟩ 1 1 [ay<|ae ⟨wr.heap.size+1,0,af⟩,aB false] (by rfl) (by rfl) (aD7 (cs:=#[ay<|ae ⟨wr.heap.size+1,0,af⟩,aB false]) (t:=98) (fr:=(0,0))<|aDY _ _) (by simp[Value.oneCell']) (by omega) (by simp only[dU];omega) (by omega) (by simp<;>omega) (w1.heap.size+1) (by simp) ?_;intro gg cap w3 iO pX dX uk;have r50:=(pX.cell_far ⟨w.heap.size+1,68,af⟩ (by simp<;>omega)<|iW Kt);have rf:=(pX.frozen_far ⟨w.heap.size+1,68,af⟩ (by simp<;>omega)<|iW Kt);rw[aFn _ _ _ gJ,q50]at r50;rw[KZ gJ,qf]at rf))
   all_goals
    go_wp2
    go_roundw
    case rel=>
     refine⟨pl.length+1,by omega,by go_num,_,_,HM.o.step (X:=wr.drew) (W:=w1.alloc<|aC #[ay<|ae ⟨wr.heap.size+1,0,af⟩,aB false] 98) (Fr.dr _) L1.o F1.o (bG _) pX iO ?_⟩
     intro q hq
     simp only[Value.ownBlock,gu]at hq
     subst hq
     rcases dX with a|a
     ·exact .inl a
     ·exact .inr (by have:=FW.o.size;omega)
    case measure=>simp[fH]<;>omega
  ·have hlQ:(pl.length:Int)=Q:=by omega
   have HH:Hid (aF wr w.heap.size (w.heap.size+1) 0<|yJ P Q T K (.slice pa pl.length pc) pl):=⟨HM.o.blk,aD9 _ _ _ _,HM.o.jU,aD9 _ _ _ _,HM.o.ed,by omega,HG.o.1,⟨hlQ.symm,HG.o.2.1⟩,rfl⟩
   go_wp2_with (go_at_call 68;refine(an7 HH.o rfl).mono ?_;rintro e w2 ⟨rfl,hr,hf⟩;have HR:Hid (aF w2 w.heap.size (w.heap.size+1) 0 (yJ P Q T K (.slice pa pl.length pc) pl).yI):=hr;have HF:Hid (Fr (fun k=>k=w.heap.size+1) wr w2):=hf;clear hr hf)
   go_ret2
   exact⟨_,_,_,rfl,HR.o,HM.o.new,HM.o.ap,HM.o.fr.trans HF.o fun q hq=>.inr<|by omega⟩
structure St where
 e:Int
 t:Int
 s:Int
 ps:List Int
def St.step(p:Int)(x:St)(r:Rc):St:=
 if r.p≠p then x else if r.k=1 then{x with e:=r.m}else if r.k=2 then⟨x.e,r.m,1,(if x.s=0 then[]else x.ps)++[r.a]⟩else if r.k=3 then{x with s:=3-r.a}else if r.k=4 then{x with s:=0}else x
def DR:St:=⟨0,0,0,[]⟩
def bz(L:List Rc)(p:Int):St:=L.foldl (St.step p) DR
def xJ(L:List Rc)(r:Rc)(p:Int):bz (L++[r]) p=(bz L p).step p r:=by simp[bz,VU]
def af5:∀(l:List Rc) (k:Nat) (e:Rc) (j:Nat),l[k]? =ae e->j<4->(l.flatMap Rc.cs)[k*4+j]? =e.cs[j]?
 |[],k,e,j,h,_=>by simp at h
 |x::r,0,e,j,h,hj=>by
  simp only[xE,gu]at h;subst h;simp only[oO];rw[uz (by simp[Rc.cs]<;>omega)];simp
 |x::r,k+1,e,j,h,hj=>by
  simp only[zB]at h;have:=af5 r k e j h hj;simp only[oO]at this⊢
  rw[xC (by simp[Rc.cs]<;>omega),<-this];congr 1;simp[Rc.cs]<;>omega
def jZ(m:Nat):Nat->List UInt8
 |0=>[]
 |k+1=>jZ (m/256) k++[UInt8.ofNat<|m%256]
def QY(m k:Nat):(jZ m k).length=k:=by
 induction k generalizing m with
 |zero=>rfl
 |succ k ih=>simp[jZ,ih]
def BR(s:ByteArray)(l:List UInt8):Prop:=s.data.toList=l/\s.size=l.length
def BU(x:Int×Int)(b:UInt8):Int×Int:=((x.1+b.toNat)%65521,(x.2+(x.1+b.toNat)%65521)%65521)
def qw(l:List UInt8):Int×Int:=l.foldl BU (1,0)
def aoh(l:List UInt8)(b:UInt8):qw (l++[b])=BU (qw l) b:=by simp[qw,VU]
def QZ(l:List UInt8):0<=(qw l).1/\(qw l).1<65521/\0<=(qw l).2/\(qw l).2<65521:=by
 have key:∀(l:List UInt8) (x:Int×Int),(0<=x.1/\x.1<65521/\0<=x.2/\x.2<65521)->(0<=(l.foldl BU x).1/\(l.foldl BU x).1<65521/\0<=(l.foldl BU x).2/\(l.foldl BU x).2<65521):=by
  intro l;induction l with
  |nil=>intro x h;exact h
  |cons b l ih=>intro x h;exact ih _ ⟨by simp only[BU];omega,by simp only[BU];omega,by simp only[BU];omega,by simp only[BU];omega⟩
 exact key l (1,0)<|by simp
def ku(r:Rc):List UInt8:=jZ r.k.toNat 1++jZ r.p.toNat 1++jZ r.a.toNat 1++jZ 0 1++jZ r.m.toNat 8
def dJ(r:Rc):List UInt8:=ku r++jZ ((qw<|ku r).2*65536+(qw<|ku r).1).toNat 4
def Oz(r:Rc):(ku r).length=12:=by simp[ku,QY]
def BV(r:Rc):(dJ r).length=16:=by simp[dJ,Oz,QY]
def wrap_i64{n:Int}(h0:0<=n)(hm:n<9223372036854775808):IntKind.i64.wrap n=n:=by
 simp only[IntKind.wrap,IntKind.bits,IntKind.signed];simp<;>omega
def Du.stays(p q:Int)(d:Du):Bool:=decide (d.p≠p)||(decide (0<=q)&&decide (d.q≠q))
def OA(p t:Int)(ps:List Int)(k:Nat):List Du:=((List.range k).filter fun(i:Nat)=>decide<|(i:Int)∈ps).map fun(i:Nat)=>⟨p,(i:Int),t+1,1⟩
section
structure Next(P Q:Int)(L:List Rc)(r:Rc):Prop where
 p0:0<=r.p
 p1:r.p<P
 kind:(r.k=1/\r.a=0/\r.m=(bz L r.p).e+1)\/(r.k=2/\(0<=r.a/\r.a<Q)/\(((bz L r.p).s=0/\r.m=(bz L r.p).t+1)\/((bz L r.p).s=1/\r.m=(bz L r.p).t/\r.a∉(bz L r.p).ps)))\/
  (r.k=3/\(r.a=0\/r.a=1)/\(bz L r.p).s=1/\r.m=(bz L r.p).t)\/(r.k=4/\r.a=0/\2<=(bz L r.p).s/\r.m=(bz L r.p).t)
inductive Valid(P Q:Int):List Rc->Prop
 |nil:Valid P Q []
 |snoc {L:List Rc} {r:Rc}:Valid P Q L->Next P Q L r->Valid P Q (L++[r])
structure St.DT(Q:Int)(n:Nat)(x:St):Prop where
 e0:0<=x.e
 e1:x.e<=n
 t0:0<=x.t
 t1:x.t<=n
 s0:0<=x.s
 s1:x.s<=3
 ps:∀q∈x.ps,0<=q/\q<Q
 nd:x.ps.Nodup
section
variable{P Q:Int}{L:List Rc}{r:Rc}
def St.GZ{p:Int}(x:St)(h:r.p≠p):x.step p r=x:=by simp[St.step,h]
def Valid.qL(h:Valid P Q L):∀p,(bz L p).DT Q L.length:=by
 induction h with
 |nil=>intro p;exact⟨by simp[bz,DR],by simp[bz,DR],by simp[bz,DR],by simp[bz,DR],by simp[bz,DR],by simp[bz,DR],by simp[bz,DR],by simp[bz,DR]⟩
 | @snoc L r _ hn ih=>
   intro p;rw[xJ];have f:=ih p;by_cases hp:r.p=p
   ·subst hp;have e1:=f.e1;have t1:=f.t1;have e0:=f.e0;have t0:=f.t0;rcases hn.kind with⟨h1,h2,h3⟩|⟨h1,h2,h3⟩|⟨h1,h2,h3,h4⟩|⟨h1,h2,h3,h4⟩
    ·have:(bz L r.p).step r.p r={bz L r.p with e:=r.m}:=by simp[St.step,h1]
     rw[this];exact⟨by simp only;omega,by simp only[iV,EU];omega,f.t0,by simp only[iV,EU];omega,f.s0,f.s1,f.ps,f.nd⟩
    ·have:(bz L r.p).step r.p r=⟨(bz L r.p).e,r.m,1,(if(bz L r.p).s=0 then[]else(bz L r.p).ps)++[r.a]⟩:=by simp[St.step,h1]
     rw[this];refine⟨f.e0,by simp only[iV,EU];omega,?_,?_,by simp only;omega,by simp only;omega,?_,?_⟩
     ·simp only;rcases h3 with⟨_,h3⟩|⟨_,h3,_⟩<;>omega
     ·simp only[iV,EU];rcases h3 with⟨_,h3⟩|⟨_,h3,_⟩<;>omega
     ·intro q hq;rcases oP.1 hq with hq|hq
      ·split at hq
       ·simp at hq
       ·exact f.ps q hq
      ·rw[oN.1 hq];exact h2
     ·rcases h3 with⟨h3,_⟩|⟨h3,_,h4⟩
      ·simp[h3]
      ·simp only[h3];rw[if_neg<|by decide];rw[List.nodup_append];exact⟨f.nd,by simp,fun a ha b hb=>by rw[oN.1 hb];intro e;subst e;exact h4 ha⟩
    ·have:(bz L r.p).step r.p r={bz L r.p with s:=3-r.a}:=by simp[St.step,h1]
     rw[this];exact⟨f.e0,by simp only[iV,EU];omega,f.t0,by simp only[iV,EU];omega,by simp only;omega,by simp only;omega,f.ps,f.nd⟩
    ·have:(bz L r.p).step r.p r={bz L r.p with s:=0}:=by simp[St.step,h1]
     rw[this];exact⟨f.e0,by simp only[iV,EU];omega,f.t0,by simp only[iV,EU];omega,by simp,by simp,f.ps,f.nd⟩
   ·rw[St.GZ _ hp];have e1:=f.e1;have t1:=f.t1;exact⟨f.e0,by simp only[iV,EU];omega,f.t0,by simp only[iV,EU];omega,f.s0,f.s1,f.ps,f.nd⟩
structure Rc.Small(r:Rc)(n:Nat):Prop where
 k0:1<=r.k
 k1:r.k<=4
 p0:0<=r.p
 p1:r.p<6
 a0:0<=r.a
 a1:r.a<4
 m0:0<=r.m
 m1:r.m<=n+1
def Next.small(hn:Next P Q L r)(hv:Valid P Q L)(hP:P<=6)(hQ:Q<=4):r.Small L.length:=by
 have f:=hv.qL r.p;have a1:=f.e0;have a2:=f.e1;have a3:=f.t0;have a4:=f.t1;have b1:=hn.p0;have b2:=hn.p1;rcases hn.kind with⟨h1,h2,h3⟩|⟨h1,h2,h3⟩|⟨h1,h2,h3,h4⟩|⟨h1,h2,h3,h4⟩
 ·exact⟨by omega,by omega,by omega,by omega,by omega,by omega,by omega,by omega⟩
 ·refine⟨by omega,by omega,by omega,by omega,by omega,by omega,?_,?_⟩<;>(rcases h3 with⟨_,h3⟩|⟨_,h3,_⟩<;>omega)
 ·exact⟨by omega,by omega,by omega,by omega,by omega,by omega,by omega,by omega⟩
 ·exact⟨by omega,by omega,by omega,by omega,by omega,by omega,by omega,by omega⟩
def Valid.small(hv:Valid P Q L)(hP:P<=6)(hQ:Q<=4):∀r∈L,r.Small L.length:=by
 induction hv with
 |nil=>intro r hr;simp at hr
 | @snoc L r hv hn ih=>
   intro x hx;have key:x.Small L.length:=by
    rcases oP.1 hx with hx|hx
    ·exact ih x hx
    ·rw[oN.1 hx];exact hn.small hv hP hQ
   have:=key.m1;exact⟨key.k0,key.k1,key.p0,key.p1,key.a0,key.a1,key.m0,by simp only[iV,EU];omega⟩
end
def PS.tie(x:PS)(q v:Int):PS:=if q=0 then{x with a:=v}else if q=1 then{x with b:=v}else if q=2 then{x with c:=v}else{x with d:=v}
def mW(v:Int):Int:=if 1<=v then 2 else v
def PS.bY(x:PS)(r:Rc):PS:=
 if r.k=1 then{x with e:=r.m}
 else if r.k=2 then({x with s:=1,t:=r.m}:PS).tie r.a 1
 else if r.k=3 then{x with s:=if r.a=1 then 2 else 3,a:=mW x.a,b:=mW x.b,c:=mW x.c,d:=mW x.d,wa:=1,ga:=1}
 else⟨x.e,x.t,0,0,0,0,0,0,0,0⟩
def jV(ps:List PS)(r:Rc):List PS:=ps.set r.p.toNat<|(ps.getD r.p.toNat pJ).bY r
def replay(L:List Rc):List PS:=L.foldl jV wE
def af7(L:List Rc)(r:Rc):replay (L++[r])=jV (replay L) r:=by simp[replay,VU]
def Q3(L:List Rc):(replay L).length=6:=by
 suffices h:∀(L:List Rc) (ps:List PS),ps.length=6->(L.foldl jV ps).length=6 from h L wE rfl
 intro L;induction L with
 |nil=>intro ps h;exact h
 |cons r L ih=>intro ps h;exact ih _<|by simp[jV,h]
structure xK(z:St)(D:List Du)(tm hi i:Int)(x:PS):Prop where
 e:x.e=z.e
 t:x.t=z.t
 s:x.s=z.s
 none:x.s=0->x.a=0/\x.b=0/\x.c=0/\x.d=0
 some:x.s≠0->∀q:Nat,q<4->(1<=x.aZ.getD q 0↔(q:Int)∈z.ps)
 fB:∀q:Nat,0<=x.aZ.getD q 0/\x.aZ.getD q 0<=2/\(x.s<=1->x.aZ.getD q 0<=1)
 due:D.filter (fun d=>decide<|d.p=i)=(bI x.aZ 2 4).map fun q=>⟨i,q,tm+x.wa,x.ga⟩
 si:x.s=1->x.si=tm-hi
def Q4(p:PS)(q:Nat)(hq:q<4):p.aZ.getD q 0=if q=0 then p.a else if q=1 then p.b else if q=2 then p.c else p.d:=by
 match q,hq with
 |0,_|1,_|2,_|3,_=>rfl
def Q5(p:PS)(q:Nat)(hq:4<=q):p.aZ.getD q 0=0:=by
 match q,hq with
 |q+4,_=>simp[PS.aZ]
def aaT{ts:List Int}{l:Int}(k:Nat)(h:∀q:Nat,ts.getD q 0<l):bI ts l k=[]:=by
 unfold bI;rw[List.map_eq_nil_iff,afa];intro q _;have:=h q;simp only[VS];omega
def G5(x:PS)(q:Int)(v:Int)(h0:0<=q)(h4:q<4)(j:Nat):(x.tie q v).aZ.getD j 0=if(j:Int)=q then v else x.aZ.getD j 0:=by
 by_cases hj:j<4
 ·have hq:q=0\/q=1\/q=2\/q=3:=by omega
  have Dk:j=0\/j=1\/j=2\/j=3:=by omega
  rcases hq with rfl|rfl|rfl|rfl<;>rcases Dk with rfl|rfl|rfl|rfl<;>rfl
 ·rw[Q5 _ _<|by omega,Q5 _ _<|by omega,if_neg<|by omega]
def G6(x:PS)(q v:Int):(x.tie q v).e=x.e/\(x.tie q v).t=x.t/\(x.tie q v).s=x.s/\(x.tie q v).si=x.si/\(x.tie q v).wa=x.wa/\(x.tie q v).ga=x.ga:=by
 unfold PS.tie;split
 ·simp
 ·split
  ·simp
  ·split<;>simp
section
variable{z:St}{D:List Du}{tm hi i:Int}{x:PS}{r:Rc}
def xK.aoj(h:xK z D tm hi i x)(hp:r.p=i)(hk:r.k=1):xK (z.step i r) D tm hi i (x.bY r):=by
 have e1:z.step i r={z with e:=r.m}:=by simp[St.step,hp,hk]
 have e2:x.bY r={x with e:=r.m}:=by simp[PS.bY,hk]
 rw[e1,e2];exact⟨rfl,h.t,h.s,h.none,h.some,h.fB,h.due,h.si⟩
def filter_none(h:x.s<=1)(hp:xK z D tm hi i x):D.filter (fun d=>decide<|d.p=i)=[]:=by
 rw[hp.due,aaT 4 (fun q=>by have:=(hp.fB q).2.2 h;omega)];rfl
def xK.add(h:xK z D tm hi i x)(hp:r.p=i)(hk:r.k=2)(ha:0<=r.a/\r.a<4)(hs:z.s=0\/z.s=1)(si':Int)(Zi:si'=tm-hi):xK (z.step i r) D tm hi i {x.bY r with si:=si'}:=by
 have e1:z.step i r=⟨z.e,r.m,1,(if z.s=0 then[]else z.ps)++[r.a]⟩:=by simp[St.step,hp,hk]
 have e2:x.bY r=({x with s:=1,t:=r.m}:PS).tie r.a 1:=by simp[PS.bY,hk]
 have key:∀j:Nat,(({x.bY r with si:=si'}:PS).aZ.getD j 0)=if(j:Int)=r.a then 1 else x.aZ.getD j 0:=fun j=>by
  rw[e2];exact G5 _ r.a 1 ha.1 ha.2 j
 obtain⟨r1,r2,r3,r4,r5,r6⟩:=G6 ({x with s:=1,t:=r.m}:PS) r.a 1;rw[<-e2]at r1 r2 r3 r4 r5 r6;have BC:x.s<=1:=by have:=h.s;omega
 rw[e1];refine⟨r1.trans h.e,r2,r3,fun e=>?_,fun _ q hq=>?_,fun q=>?_,?_,fun _=>Zi⟩
 ·have:(x.bY r).s=1:=r3;simp only at e;omega
 ·rw[key q];simp only[oP,oN];by_cases EG:(q:Int)=r.a
  ·rw[if_pos EG];simp[EG]
  ·rw[if_neg EG];rcases hs with hs|hs
   ·have hz:=h.none<|h.s.trans hs;rw[if_pos hs];have:x.aZ.getD q 0=0:=by
     rw[Q4 x q hq];simp only[hz];split<;>(try split)<;>(try split)<;>rfl
    rw[this];simp[EG]
   ·rw[if_neg<|by omega,h.some (by have:=h.s;omega) q hq];simp[EG]
 ·rw[key q];have f1:=(h.fB q).1;have f2:=(h.fB q).2.2 BC;split<;>refine⟨by omega,by omega,fun _=>by omega⟩
 ·rw[filter_none BC h,aaT 4 (fun q=>by rw[key q];have f2:=(h.fB q).2.2 BC;split<;>omega)];rfl
def Q7(hk:r.k=3)(j:Nat):(x.bY r).aZ.getD j 0=mW (x.aZ.getD j 0):=by
 have e2:x.bY r={x with s:=if r.a=1 then 2 else 3,a:=mW x.a,b:=mW x.b,c:=mW x.c,d:=mW x.d,wa:=1,ga:=1}:=by simp[PS.bY,hk]
 by_cases hj:j<4
 ·have Dk:j=0\/j=1\/j=2\/j=3:=by omega
  rw[e2];rcases Dk with rfl|rfl|rfl|rfl<;>rfl
 ·rw[Q5 _ _<|by omega,Q5 _ _<|by omega];rfl
def aok(D:List Du)(i:Int):(D.filter<|Du.stays i<|-1).filter (fun d=>decide<|d.p=i)=[]:=by
 rw[afa];intro d hd;have:=(KU.1 hd).2;simp[Du.stays]at this;simpa using this
def aol(p t:Int)(ps:List Int)(k:Nat):(OA p t ps k).filter (fun d=>decide<|d.p=p)=OA p t ps k:=by
 rw[List.filter_eq_self];intro d hd;simp only[OA,Je]at hd;obtain⟨q,_,rfl⟩:=hd;simp
def aom{ps:List Int}{ts:List Int}{k:Nat}(hk:k<=4)(hq:∀q∈ps,0<=q/\q<(k:Int))(h:∀q:Nat,q<4->(2<=ts.getD q 0↔(q:Int)∈ps))(p t:Int):
 OA p t ps k=(bI ts 2 4).map fun q=>⟨p,q,t+1,1⟩:=by
 have e1:bI ts 2 4=((List.range k).filter fun i=>decide<|2<=ts.getD i 0).map Int.ofNat:=by
  unfold bI;congr 1;have:List.range 4=List.range k++(List.range<|4-k).map (k+ ·):=by
   rw[<-List.range_add];congr 1;omega
  rw[this,zD];have h2:((List.range<|4-k).map (k+ ·)).filter (fun i=>decide<|2<=ts.getD i 0)=[]:=by
   rw[afa];intro q EF;simp only[Je,GN]at EF;obtain⟨j,hj,rfl⟩:=EF;simp only[VS];rw[h (k+j)<|by omega];intro hm;have:=(hq _ hm).2;omega
  rw[h2,ql]
 rw[e1];unfold OA;rw[List.map_map];have e2:(List.range k).filter (fun(i:Nat)=>decide<|(i:Int)∈ps)=(List.range k).filter fun i=>decide (2<=ts.getD i 0):=by
  apply Ob;intro q EF;have:=h q (by have:=GN.1 EF;omega);simp only[decide_eq_decide];exact this.symm
 rw[e2];rfl
def xK.end_(h:xK z D tm hi i x)(hp:r.p=i)(hk:r.k=3)(ha:r.a=0\/r.a=1)(hs:z.s=1){Q:Nat}(hQ:Q<=4)(gI:∀q∈z.ps,0<=q/\q<(Q:Int)):
 xK (z.step i r) (D.filter (Du.stays i<|-1)++OA i tm (z.step i r).ps Q) tm hi i (x.bY r):=by
 have e1:z.step i r={z with s:=3-r.a}:=by simp[St.step,hp,hk]
 have e2:x.bY r={x with s:=if r.a=1 then 2 else 3,a:=mW x.a,b:=mW x.b,c:=mW x.c,d:=mW x.d,wa:=1,ga:=1}:=by simp[PS.bY,hk]
 have zk:(x.bY r).s=3-r.a:=by
  rw[e2];rcases ha with ha|ha<;>simp[ha]
 have Jk:(x.bY r).wa=1/\(x.bY r).ga=1:=by rw[e2];exact⟨rfl,rfl⟩
 have gJ:x.s≠0:=by have:=h.s;omega
 have Ey:∀q:Nat,(2<=(x.bY r).aZ.getD q 0↔1<=x.aZ.getD q 0):=fun q=>by
  rw[Q7 hk];unfold mW;have f2:=(h.fB q).2.2 (by have:=h.s;omega);split<;>omega
 rw[e1];refine⟨by rw[e2];exact h.e,by rw[e2];exact h.t,zk,fun e=>by omega,fun _ q hq=>?_,fun q=>?_,?_,fun e=>by omega⟩
 ·rw[<-h.some gJ q hq,<-Ey q,Q7 hk];unfold mW;split<;>omega
 ·rw[Q7 hk];have f1:=(h.fB q).1;have f2:=(h.fB q).2.1;unfold mW;refine⟨by split<;>omega,by split<;>omega,fun e=>by omega⟩
 ·rw[zD,aok,aol,xH,aom hQ gI fun q hq=>(Ey q).trans<|h.some gJ q hq,Jk.1,Jk.2]
def xK.done{D':List Du}(h:xK z D tm hi i x)(hp:r.p=i)(hk:r.k=4)(hD:D'.filter (fun d=>decide<|d.p=i)=[]):xK (z.step i r) D' tm hi i (x.bY r):=by
 have e1:z.step i r={z with s:=0}:=by simp[St.step,hp,hk]
 have e2:x.bY r=⟨x.e,x.t,0,0,0,0,0,0,0,0⟩:=by simp[PS.bY,hk]
 have hz:∀q:Nat,(⟨x.e,x.t,0,0,0,0,0,0,0,0⟩:PS).aZ.getD q 0=0:=fun q=>by
  match q with
  |0|1|2|3=>rfl
  |q+4=>simp[PS.aZ]
 rw[e1,e2];refine⟨h.e,h.t,rfl,fun _=>⟨rfl,rfl,rfl,rfl⟩,fun e=>absurd rfl e,fun q=>by rw[hz q];exact⟨by omega,by omega,fun _=>by omega⟩,?_,fun e=>by simp at e⟩;rw[hD,aaT 4 (fun q=>by rw[hz q];omega)];rfl
end
structure Q8(z:St)(x:PS):Prop where
 e:x.e=z.e
 t:x.t=z.t
 s:x.s=z.s
 none:x.s=0->x.a=0/\x.b=0/\x.c=0/\x.d=0
 one:x.s=1->∀q:Nat,q<4->x.aZ.getD q 0=if(q:Int)∈z.ps then 1 else 0
 two:2<=x.s->(∀q:Nat,q<4->x.aZ.getD q 0=if(q:Int)∈z.ps then 2 else 0)/\x.wa=1/\x.ga=1
 si:x.si=0
def Q8.step{P Q:Int}{L:List Rc}{r:Rc}{x:PS}(hn:Next P Q L r)(hQ:Q<=4)(h:Q8 (bz L r.p) x):Q8 (bz (L++[r]) r.p) (x.bY r):=by
 rw[xJ];have hnk:=hn.kind;generalize bz L r.p=z at h hnk⊢
 rcases hnk with⟨h1,h2,h3⟩|⟨h1,h2,h3⟩|⟨h1,h2,h3,h4⟩|⟨h1,h2,h3,h4⟩
 ·have e1:z.step r.p r={z with e:=r.m}:=by simp[St.step,h1]
  have e2:x.bY r={x with e:=r.m}:=by simp[PS.bY,h1]
  rw[e1,e2];exact⟨rfl,h.t,h.s,h.none,h.one,h.two,h.si⟩
 ·have e1:z.step r.p r=⟨z.e,r.m,1,(if z.s=0 then[]else z.ps)++[r.a]⟩:=by simp[St.step,h1]
  have e2:x.bY r=({x with s:=1,t:=r.m}:PS).tie r.a 1:=by simp[PS.bY,h1]
  have key:∀j:Nat,(x.bY r).aZ.getD j 0=if(j:Int)=r.a then 1 else x.aZ.getD j 0:=fun j=>by
   rw[e2];exact G5 _ r.a 1 h2.1 (by omega) j
  obtain⟨r1,r2,r3,r4,r5,r6⟩:=G6 ({x with s:=1,t:=r.m}:PS) r.a 1;rw[<-e2]at r1 r2 r3 r4 r5 r6;rw[e1];refine⟨r1.trans h.e,r2,r3,fun e=>by rw[r3]at e;simp at e,fun _ q hq=>?_,fun e=>by rw[r3]at e;simp at e,r4.trans h.si⟩;rw[key q];simp only[oP,oN];by_cases EG:(q:Int)=r.a
  ·rw[if_pos EG,if_pos<|.inr EG]
  ·rw[if_neg EG];rcases h3 with⟨h3,_⟩|⟨h3,_,_⟩
   ·have hz:=h.none<|h.s.trans h3;rw[if_pos h3,if_neg<|by simp[EG],Q4 x q hq];simp only[hz];split<;>(try split)<;>(try split)<;>rfl
   ·rw[h.one (h.s.trans h3) q hq,if_neg<|show¬z.s=0 by omega];simp[EG]
 ·have e1:z.step r.p r={z with s:=3-r.a}:=by simp[St.step,h1]
  have e2:x.bY r={x with s:=if r.a=1 then 2 else 3,a:=mW x.a,b:=mW x.b,c:=mW x.c,d:=mW x.d,wa:=1,ga:=1}:=by simp[PS.bY,h1]
  have zk:(x.bY r).s=3-r.a:=by
   rw[e2];rcases h2 with h2|h2<;>simp[h2]
  rw[e1];refine⟨by rw[e2];exact h.e,by rw[e2];exact h.t,zk,fun e=>by omega,fun e=>by omega,fun _=>⟨fun q hq=>?_,by rw[e2],by rw[e2]⟩,by rw[e2];exact h.si⟩;rw[Q7 h1,h.one (h.s.trans h3) q hq];unfold mW;split<;>rfl
 ·have e1:z.step r.p r={z with s:=0}:=by simp[St.step,h1]
  have e2:x.bY r=⟨x.e,x.t,0,0,0,0,0,0,0,0⟩:=by simp[PS.bY,h1]
  rw[e1,e2];exact⟨h.e,h.t,rfl,fun _=>⟨rfl,rfl,rfl,rfl⟩,fun e=>by simp at e,fun e=>by simp at e,rfl⟩
def Valid.replay{P Q:Int}{L:List Rc}(hv:Valid P Q L)(hQ:Q<=4):∀i:Nat,i<6->∃x,(replay L)[i]? =ae x/\Q8 (bz L i) x:=by
 induction hv with
 |nil=>
  intro i hi;have hz:Q8 DR pJ:=⟨rfl,rfl,rfl,fun _=>⟨rfl,rfl,rfl,rfl⟩,fun e=>by simp[pJ]at e,fun e=>by simp[pJ]at e,rfl⟩;match i,hi with
  |0,_|1,_|2,_|3,_|4,_|5,_=>exact⟨pJ,rfl,hz⟩
 | @snoc L r hv hn ih=>
   intro i hi;rw[af7];have vW:=hn.p0;have rU:=hn.p1;by_cases e:r.p=i
   ·obtain⟨x,hx,hr⟩:=ih i hi;have en:r.p.toNat=i:=by omega
    refine⟨x.bY r,?_,?_⟩
    ·unfold jV;rw[en,mQ (by rw[Q3];exact hi)];simp[List.getD,hx]
    ·rw[<-e]at hr⊢
     exact hr.step hn hQ
   ·obtain⟨x,hx,hr⟩:=ih i hi;refine⟨x,?_,?_⟩
    ·unfold jV;rw[uZ<|by omega];exact hx
    ·rw[xJ,St.GZ _ e];exact hr
end
section
def HS.dQ(h:HS)(i:Nat)(x:PS):HS:={h with ps:=h.ps.set i x}
def af8:∀(l:List PS) (i j:Nat) (x x':PS) (v:az),l[i]? =ae x->j<10->x'.cs=x.cs.set j v->(l.flatMap PS.cs).set (i*10+j) v=(l.set i x').flatMap PS.cs
 |[],i,j,x,x',v,h,_,_=>by simp at h
 |y::r,0,j,x,x',v,h,hj,hx=>by
  simp only[xE,gu]at h;subst h;simp only[oO,List.set_cons_zero,Nat.zero_mul,DK];rw[List.set_append_left _ _ (by simp[PS.cs]<;>omega),hx]
 |y::r,i+1,j,x,x',v,h,hj,hx=>by
  simp only[zB]at h;have:=af8 r i j x x' v h hj hx;simp only[oO,List.set_cons_succ];rw[afc _ _ (by simp[PS.cs]<;>omega),<-this];congr 2;simp[PS.cs]<;>omega
variable{i q:Nat}{x x':PS}
def HS.aon{h:HS}{j:Nat}{v:az}(hx:h.ps[i]? =ae x)(hj:j<10)(hv:x'.cs=x.cs.set j v):h.cells.toArray.setIfInBounds (6+i*10+j) v=(h.dQ i x').cells.toArray:=by
 have hk:=(dM.1 hx).1;rw[List.setIfInBounds_toArray];congr 1;unfold HS.cells HS.dQ;simp only;rw[afc _ _ (by simp<;>omega),List.set_append_left _ _ (by rw[V8];simp only[oq,wB];omega),<-af8 h.ps i j x x' v hx hj hv];congr 3;simp<;>omega
def tJ{h:HS}(hx:h.ps[i]? =ae x):(h.dQ i x').ps[i]? =ae x':=by
 have hk:=(dM.1 hx).1;simp[HS.dQ,hk]
def Lj(x:PS)(hq:q<4):x.cs[3+q]? =ae (.int .i64<|x.aZ.getD q 0):=by
 match q,hq with
 |0,_|1,_|2,_|3,_=>rfl
def Wi(x:PS)(hq:q<4)(v:Int):(x.tie q v).cs=x.cs.set (3+q) (ag ah v):=by
 match q,hq with
 |0,_|1,_|2,_|3,_=>rfl
def G7(h:HS)(i:Nat)(x x':PS):(h.dQ i x).dQ i x'=h.dQ i x':=by simp[HS.dQ]
section
variable{w w':aj}{B xb n:Nat}{h:HS}
def aF.setCell(hh:aF w B xb n h){i j:Nat}{x:PS}(x':PS){v:az}(hx:h.ps[i]? =ae x)(hj:j<10)(hv:x'.cs=x.cs.set j v):aF (w.setCell ⟨xb,6+i*10+j,af⟩ v) B xb n (h.dQ i x')/\Fr (fun k=>k=xb) w (w.setCell ⟨xb,6+i*10+j,af⟩ v):=by
 have f:Fr (fun k=>k=xb) w (w.setCell ⟨xb,6+i*10+j,af⟩ v):=(Fr.refl (fun k=>k=xb) w).setCell (p:=⟨xb,6+i*10+j,af⟩) (.inl rfl) v;refine⟨hh.put f ?_ rfl rfl rfl rfl rfl rfl rfl rfl<|by simp[HS.dQ,hh.h6],f⟩;rw[jT hh.blk,HS.aon hx hj hv]
abbrev wF(w:aj)(b xb:Nat):Prop:=w.heap[b]? =ae (aC #[ay<|ae ⟨xb,4,af⟩] 181 (0,0))
variable{i b:Nat}{x:PS}
def aF.cellP(hh:aF w B xb n h)(hx:h.ps[i]? =ae x):
 (w.cell? ⟨xb,6+i*10,af⟩=ae (ag ah x.e)/\w.cell? ⟨xb,6+i*10+1,af⟩=ae (ag ah x.t)/\w.cell? ⟨xb,6+i*10+2,af⟩=ae (ag ah x.s))/\(∀o,w.frozen? ⟨xb,o,af⟩=false):=
 ⟨⟨hh.iY hx 0 _ rfl,hh.iY hx 1 _ rfl,hh.iY hx 2 _ rfl⟩,jS hh.blk⟩
def af9(hh:aF w B xb n h)(hb:wF w b xb)(hi:i<6)(hx:h.ps[i]? =ae x)(k a m:Int):
 aU prog 179 #[gY #[ag ah k,ag ah i,ag ah a,ag ah m],ay<|ae ⟨b,0,af⟩] w fun e w'=>e=aT (dK #[])/\aF w' B xb n (h.dQ i {x with e:=m})/\Fr (fun k=>k=xb) w w':=by
 have HH:Hid (aF w B xb n h):=hh;have HX:Hid (h.ps[i]? =ae x):=hx;have k0:w.cell? ⟨b,0,af⟩=ae (ay<|ae ⟨xb,4,af⟩):=by rw[aK hb];rfl
 have EH:=aX hb;have gW:=aX hh.blk;obtain⟨⟨e0,e1,e2⟩,ef⟩:=hh.cellP hx;have dR:(0:Int)<=(i:Int):=by omega
 have lu:(i:Int)<6:=by omega
 clear hh hx hb;go_enter func179,ntmps179
 go_wp2_with fail
 go_region
 go_end0
 have hs:=HH.o.setCell {x with e:=m} (j:=0) (v:=ag ah m) HX.o (by omega) rfl;have fa:Fr aP (w.setCell ⟨xb,6+i*10,af⟩<|ag ah m) ((w.setCell ⟨xb,6+i*10,af⟩<|ag ah m).alloc<|aC #[ag ah k,ag ah i,ag ah a,ag ah m] 184).drew:=(bG _).drew;exact⟨rfl,hs.1.after fa,hs.2.trans fa fun _ h=>h.elim⟩
def aga(hh:aF w B xb n h){q:Nat}(hb:wF w b xb)(hi:i<6)(hq:q<4)(hx:h.ps[i]? =ae x)(k m:Int):
 aU prog 180 #[gY #[ag ah k,ag ah i,ag ah q,ag ah m],ay<|ae ⟨b,0,af⟩] w fun e w'=>e=aT (dK #[])/\aF w' B xb n (h.dQ i<|({x with s:=1,t:=m}:PS).tie q 1)/\Fr (fun k=>k=xb) w w':=by
 have HH:Hid (aF w B xb n h):=hh;have HX:Hid (h.ps[i]? =ae x):=hx;have k0:w.cell? ⟨b,0,af⟩=ae (ay<|ae ⟨xb,4,af⟩):=by rw[aK hb];rfl
 have EH:=aX hb;have gW:=aX hh.blk;obtain⟨⟨e0,e1,e2⟩,ef⟩:=hh.cellP hx;have e3:w.cell? ⟨xb,6+i*10+3+q,af⟩=ae (.int .i64<|x.aZ.getD q 0):=by
  match q,hq with
  |0,_=>exact hh.iY hx 3 _ rfl
  |1,_=>exact hh.iY hx 4 _ rfl
  |2,_=>exact hh.iY hx 5 _ rfl
  |3,_=>exact hh.iY hx 6 _ rfl
 have dR:(0:Int)<=(i:Int):=by omega
 have lu:(i:Int)<6:=by omega
 have rV:(0:Int)<=(q:Int):=by omega
 have vV:(q:Int)<4:=by omega
 clear hh hx hb;go_enter func180,ntmps180
 go_wp2_with fail
 go_region
 go_wp2_with fail
 go_region
 go_wp2_with fail
 go_region
 go_end0
 have s1:=HH.o.setCell {x with s:=1} (j:=2) (v:=ag ah 1) HX.o (by omega) rfl;have s2:=s1.1.setCell {x with s:=1,t:=m} (j:=1) (v:=ag ah m) (tJ HX.o) (by omega) rfl;rw[G7]at s2;have s3:=s2.1.setCell (({x with s:=1,t:=m}:PS).tie q 1) (j:=3+q) (v:=ag ah 1) (tJ HX.o) (by omega)<|Wi _ hq 1;rw[G7,<-zG]at s3;refine⟨rfl,?_,?_⟩
 ·exact s3.1.after (((bG _).drew).drew).drew
 ·exact((s1.2.trans s2.2 fun _=>.inl).trans s3.2 fun _=>.inl).trans (((bG _).drew).drew).drew fun _ h=>h.elim
def agb:∀(l:List PS) (i:Nat) (x x':PS),l[i]? =ae x->∃u v,l.flatMap PS.cs=u++(x.cs++v)/\u.length=i*10/\(l.set i x').flatMap PS.cs=u++(x'.cs++v)
 |[],i,x,x',h=>by simp at h
 |y::r,0,x,x',h=>by
  simp only[xE,gu]at h;subst h;exact⟨[],r.flatMap PS.cs,by simp,by simp,by simp⟩
 |y::r,i+1,x,x',h=>by
  simp only[zB]at h;obtain⟨u,v,h1,h2,h3⟩:=agb r i x x' h;exact⟨y.cs++u,v,by simp[h1],by simp[h2,PS.cs]<;>omega,by simp[h3]⟩
def agc:∀(vs us pre post:List az),us.length=vs.length->Ou (pre++(us++post)).toArray pre.length vs=(pre++(vs++post)).toArray
 |[],us,pre,post,h=>by
  have:us=[]:=QK.1 h;subst this;rfl
 |v::vs,us,pre,post,h=>by
  match us,h with
  |u::us,h=>
   rw[Ou,List.setIfInBounds_toArray];have e1:(pre++(u::us++post)).set pre.length v=(pre++[v])++(us++post):=by
    rw[afc _ _<|dm _];simp
   rw[e1];have:=agc vs us (pre++[v]) post (by simpa using h);rw[iV,EU]at this;rw[this];simp
def HS.aoo{h:HS}(x':PS)(hx:h.ps[i]? =ae x):Ou h.cells.toArray (6+i*10) x'.cs=(h.dQ i x').cells.toArray:=by
 obtain⟨u,v,h1,h2,h3⟩:=agb h.ps i x x' hx;unfold HS.dQ HS.cells;simp only;rw[h1,h3];have:=agc x'.cs x.cs ([ag ah h.P,ag ah h.Q,ag ah h.T,ag ah h.K,h.jv,aB h.up]++u) (v++[aB h.br,ag ah h.kp,h.pv,h.fv]) rfl;rw[iV,h2]at this;simp only[AQ,oq,wB]at this⊢
 exact this
def agd(hh:aF w B xb n h)(hb:wF w b xb)(hi:i<6)(hx:h.ps[i]? =ae x)(k a m:Int):
 aU prog 182 #[gY #[ag ah k,ag ah i,ag ah a,ag ah m],ay<|ae ⟨b,0,af⟩] w fun e w'=>e=aT (dK #[])/\aF w' B xb n (h.dQ i ⟨x.e,x.t,0,0,0,0,0,0,0,0⟩)/\Fr (fun k=>k=xb) w w':=by
 have HH:Hid (aF w B xb n h):=hh;have HX:Hid (h.ps[i]? =ae x):=hx;have k0:w.cell? ⟨b,0,af⟩=ae (ay<|ae ⟨xb,4,af⟩):=by rw[aK hb];rfl
 have EH:=aX hb;have gW:=aX hh.blk;obtain⟨⟨e0,e1,e2⟩,ef⟩:=hh.cellP hx;have e3:w.cell? ⟨xb,6+i*10+3,af⟩=ae (ag ah x.a):=hh.iY hx 3 _ rfl;have e4:w.cell? ⟨xb,6+i*10+4,af⟩=ae (ag ah x.b):=hh.iY hx 4 _ rfl;have e5:w.cell? ⟨xb,6+i*10+5,af⟩=ae (ag ah x.c):=hh.iY hx 5 _ rfl;have e6:w.cell? ⟨xb,6+i*10+6,af⟩=ae (ag ah x.d):=hh.iY hx 6 _ rfl;have e7:w.cell? ⟨xb,6+i*10+7,af⟩=ae (ag ah x.si):=hh.iY hx 7 _ rfl;have e8:w.cell? ⟨xb,6+i*10+8,af⟩=ae (ag ah x.wa):=hh.iY hx 8 _ rfl;have e9:w.cell? ⟨xb,6+i*10+9,af⟩=ae (ag ah x.ga):=hh.iY hx 9 _ rfl;have dR:(0:Int)<=(i:Int):=by omega
 have lu:(i:Int)<6:=by omega
 clear hh hx hb;go_enter func182,ntmps182
 go_wp2_with fail
 go_region
 go_wp2_with fail
 go_region
 go_end0
 have fs:Fr (fun k=>k=xb) w (w.setCells xb (6+i*10) (⟨x.e,x.t,0,0,0,0,0,0,0,0⟩:PS).cs):=Fr.setCells (S:=fun k=>k=xb) (.inl rfl) _ _<|Fr.refl _ _;have hs:aF (w.setCells xb (6+i*10) (⟨x.e,x.t,0,0,0,0,0,0,0,0⟩:PS).cs) B xb n (h.dQ i ⟨x.e,x.t,0,0,0,0,0,0,0,0⟩):=by
  refine HH.o.put fs ?_ rfl rfl rfl rfl rfl rfl rfl rfl (by simp[HS.dQ,HH.o.h6]);rw[<-HS.aoo _ HX.o];exact Jh _ _ HH.o.blk
 exact⟨rfl,hs.after<|((bG _).drew).drew,fs.trans (((bG _).drew).drew) fun _ h=>h.elim⟩
def age(ts:List Int)(l:Int):∀q∈bI ts l 4,∃q':Nat,q=q'/\q'<4:=by
 intro q hq;simp only[bI,Je,KU,GN]at hq;obtain⟨q',⟨h1,_⟩,rfl⟩:=hq;exact⟨q',rfl,h1⟩
def Jl{w:aj}{B:Nat}{ty:dw}{wd:Nat}{v:az}{n:Nat}{xs:List az}(h:w.ownsRow B ty wd v n xs)(hn:0<n):∃g cap,v=aJ (ae ⟨g,0,af⟩) n cap/\n<=cap:=by
 rcases h.2 with⟨_,h0⟩|⟨g,cap,cur,hv,hb,hg,h1,h2,_⟩
 ·omega
 ·exact⟨g,cap,hv,h1⟩
def PS.pend(x:PS):List Int->PS
 |[]=>x
 |q::r=>(x.tie q 2).pend r
def PS.agf(x:PS)(l:List Int)(q:Int):x.pend (l++[q])=(x.pend l).tie q 2:=by
 induction l generalizing x with
 |nil=>rfl
 |cons a r ih=>exact ih<|x.tie a 2
def aaV(hh:aF w B xb n h)(hb:wF w b xb)(hi:i<6)(hx:h.ps[i]? =ae x)(k m:Int){c:Bool}{a s':Int}(ha:a=if c then 1 else 0)(um:s'=if c then 2 else 3):
 aU prog 181 #[gY #[ag ah k,ag ah i,ag ah a,ag ah m],ay<|ae ⟨b,0,af⟩] w fun e w'=>e=aT (dK #[])/\aF w' B xb n (h.dQ i {({x with s:=s'}:PS).pend (bI x.aZ 1 4)with wa:=1,ga:=1})/\Fr (fun k=>k=xb) w w':=by
 have HH:Hid (aF w B xb n h):=hh;have HX:Hid (h.ps[i]? =ae x):=hx;have k0:w.cell? ⟨b,0,af⟩=ae (ay<|ae ⟨xb,4,af⟩):=by rw[aK hb];rfl
 have EH:=aX hb;have gW:=aX hh.blk;obtain⟨⟨e0,e1,e2⟩,ef⟩:=hh.cellP hx;have dR:(0:Int)<=(i:Int):=by omega
 have lu:(i:Int)<6:=by omega
 clear hh hx hb;cases c
 ·obtain rfl:a=0:=ha;obtain rfl:s'=3:=um;go_enter func181,ntmps181
  go_wp2_with fail
  go_region
  go_wp2_with fail
  have hW:=(HH.o.setCell {x with s:=3} (j:=2) (v:=ag ah 3) HX.o (by omega) rfl);have fW:Fr aP (w.setCell ⟨xb,6+i*10+2,af⟩<|ag ah 3) ((w.setCell ⟨xb,6+i*10+2,af⟩<|ag ah 3).alloc<|aC #[ag ah k,ag ah i,ag ah 0,ag ah m] 184).drew:=(bG _).drew;replace hW:=(⟨hW.1.after fW,hW.2.trans fW fun _ h=>h.elim⟩:aF _ B xb n (h.dQ i {x with s:=3})/\Fr (fun k=>k=xb) w _);generalize((w.setCell ⟨xb,6+i*10+2,af⟩<|ag ah 3).alloc<|aC #[ag ah k,ag ah i,ag ah 0,ag ah m] 184).drew=W at hW⊢
  clear fW;have HW:Hid (aF W B xb n<|h.dQ i {x with s:=3}):=hW.1;have FW:Hid (Fr (fun k=>k=xb) w W):=hW.2;have bx:xb<W.heap.size:=fK gW hW.2.size;have Jf:Hid (∀j v,({x with s:=3}:PS).cs[j]? =ae v->W.cell? ⟨xb,6+i*10+j,af⟩=ae v):=fun j v hv=>hW.1.iY (tJ HX.o) j v hv;clear hW e0 e1 e2 ef;refine(Lh (p:={x with s:=3}) Jf.o 1).mono ?_;rintro e w1 ⟨v,rfl,hv,hf⟩;have F1:Hid (Fr aP W w1):=hf;obtain⟨S,hS⟩:∃S,bI ({x with s:=3}:PS).aZ 1 4=S:=⟨_,rfl⟩;have HS:Hid (bI x.aZ 1 4=S):=hS;have Q9:Hid (∀q∈S,∃q':Nat,q=q'/\q'<4):=by
   show∀q∈S,∃q':Nat,q=q'/\q'<4;rw[<-hS];exact age _ _
  rw[hS]at hv;have V1:Hid (AX W w1 v S):=hv;have H1:Hid (aF w1 B xb n<|h.dQ i {x with s:=3}):=HW.o.after hf;obtain⟨va,vc,rfl,Dj⟩:=kR hv;have Kr:S.length<=4:=by rw[<-hS];exact aaP _ _ _
  clear hf hS hv Dj;go_wp2_with fail
  go_loopw [24] (fun ii w'=>∃j:Nat,j<=S.length/\ii=ag ah j/\aF w' B xb n (h.dQ i<|({x with s:=3}:PS).pend<|S.take j)/\Fr (fun k=>k=xb) w1 w') (fun ii _=>(S.length-fH ii).toNat)
  case atStart=>exact⟨0,by omega,rfl,H1.o,Fr.refl _ _⟩
  case round=>
   obtain⟨j,hj,rfl,dX,dO⟩:=hrel
   have HR:Hid (aF wr B xb n<|h.dQ i<|({x with s:=3}:PS).pend<|S.take j):=dX
   have FR:Hid (Fr (fun k=>k=xb) w1 wr):=dO
   have rf:∀o,wr.frozen? ⟨xb,o,af⟩=false:=jS dX.blk
   by_cases aI:j<S.length
   ·obtain⟨q,hq⟩:∃q,S[j]? =ae q:=⟨_,eY aI⟩
    obtain⟨q',rfl,mZ⟩:=Q9.o q<|gz hq
    have HT:Hid (({x with s:=3}:PS).pend (S.take<|j+1)=(({x with s:=3}:PS).pend<|S.take j).tie q' 2):=by
     show PS.pend _ _=_;rw[AP,hq,EX,PS.agf]
    have dF:=dO.ownsRow V1.o (fun k hk e=>by have:=(V1.o.lt k hk).1;omega)
    obtain⟨g,gc,xq,_⟩:=Jl dF<|by omega
    simp only[aD6]at xq
    obtain⟨rfl,_,rfl⟩:=xq
    have cq:=yH dF hq
    have e3:wr.cell? ⟨xb,6+i*10+3+q',af⟩=ae (.int .i64<|(({x with s:=3}:PS).pend<|S.take j).aZ.getD q' 0):=by
     rw[zG];exact dX.iY (tJ HX.o) (3+q') _<|Lj _ mZ
    have rV:(0:Int)<=(q':Int):=by omega
    have vV:(q':Int)<4:=by omega
    have hj0:(0:Int)<=(j:Int):=by omega
    have rW:(j:Int)<S.length:=by omega
    clear dF dX dO hq
    go_wp2_with fail
    go_roundw
    case rel=>
     have hs:=HR.o.setCell ((({x with s:=3}:PS).pend<|S.take j).tie q' 2) (j:=3+q') (v:=ag ah 2) (tJ HX.o) (by omega)<|Wi _ mZ 2
     rw[G7,<-zG]at hs
     refine⟨j+1,by omega,by go_num,?_,FR.o.trans hs.2 fun _=>.inl⟩
     rw[HT.o]
     exact hs.1
    case measure=>simp[fH]<;>omega
   ·have HT:Hid (S.take j=S):=DJ (by omega)
    have e8:=dX.iY (tJ HX.o) 8 _ rfl
    have e9:=dX.iY (tJ HX.o) 9 _ rfl
    clear dX dO
    go_wp2_with fail
    go_end0
    have s1:=HR.o.setCell {(({x with s:=3}:PS).pend<|S.take j)with wa:=1} (j:=8) (v:=ag ah 1) (tJ HX.o) (by omega) rfl
    rw[G7]at s1
    have s2:=s1.1.setCell {(({x with s:=3}:PS).pend<|S.take j)with wa:=1,ga:=1} (j:=9) (v:=ag ah 1) (tJ HX.o) (by omega) rfl
    rw[G7]at s2
    refine⟨rfl,?_,(((FW.o.trans F1.o fun _ h=>h.elim).trans FR.o fun _=>.inl).trans s1.2 fun _=>.inl).trans s2.2 fun _=>.inl⟩
    rw[HS.o,<-HT.o]
    exact s2.1
 ·obtain rfl:a=1:=ha;obtain rfl:s'=2:=um;go_enter func181,ntmps181
  go_wp2_with fail
  go_region
  go_wp2_with fail
  have Ku:=(HH.o.setCell {x with s:=3} (j:=2) (v:=ag ah 3) HX.o (by omega) rfl);have hW:=(Ku.1.setCell {x with s:=2} (j:=2) (v:=ag ah 2) (tJ HX.o) (by omega) rfl);rw[G7]at hW;have fW:Fr aP ((w.setCell ⟨xb,6+i*10+2,af⟩<|ag ah 3).setCell ⟨xb,6+i*10+2,af⟩<|ag ah 2) (((w.setCell ⟨xb,6+i*10+2,af⟩<|ag ah 3).setCell ⟨xb,6+i*10+2,af⟩<|ag ah 2).alloc<|aC #[ag ah k,ag ah i,ag ah 1,ag ah m] 184).drew:=(bG _).drew;replace hW:=(⟨hW.1.after fW,(Ku.2.trans hW.2 fun _=>.inl).trans fW fun _ h=>h.elim⟩:aF _ B xb n (h.dQ i {x with s:=2})/\Fr (fun k=>k=xb) w _);generalize(((w.setCell ⟨xb,6+i*10+2,af⟩<|ag ah 3).setCell ⟨xb,6+i*10+2,af⟩<|ag ah 2).alloc<|aC #[ag ah k,ag ah i,ag ah 1,ag ah m] 184).drew=W at hW⊢
  clear fW Ku;have HW:Hid (aF W B xb n<|h.dQ i {x with s:=2}):=hW.1;have FW:Hid (Fr (fun k=>k=xb) w W):=hW.2;have bx:xb<W.heap.size:=fK gW hW.2.size;have Jf:Hid (∀j v,({x with s:=2}:PS).cs[j]? =ae v->W.cell? ⟨xb,6+i*10+j,af⟩=ae v):=fun j v hv=>hW.1.iY (tJ HX.o) j v hv;clear hW e0 e1 e2 ef;refine(Lh (p:={x with s:=2}) Jf.o 1).mono ?_;rintro e w1 ⟨v,rfl,hv,hf⟩;have F1:Hid (Fr aP W w1):=hf;obtain⟨S,hS⟩:∃S,bI ({x with s:=2}:PS).aZ 1 4=S:=⟨_,rfl⟩;have HS:Hid (bI x.aZ 1 4=S):=hS;have Q9:Hid (∀q∈S,∃q':Nat,q=q'/\q'<4):=by
   show∀q∈S,∃q':Nat,q=q'/\q'<4;rw[<-hS];exact age _ _
  rw[hS]at hv;have V1:Hid (AX W w1 v S):=hv;have H1:Hid (aF w1 B xb n<|h.dQ i {x with s:=2}):=HW.o.after hf;obtain⟨va,vc,rfl,Dj⟩:=kR hv;have Kr:S.length<=4:=by rw[<-hS];exact aaP _ _ _
  clear hf hS hv Dj;go_wp2_with fail
  go_loopw [24] (fun ii w'=>∃j:Nat,j<=S.length/\ii=ag ah j/\aF w' B xb n (h.dQ i<|({x with s:=2}:PS).pend<|S.take j)/\Fr (fun k=>k=xb) w1 w') (fun ii _=>(S.length-fH ii).toNat)
  case atStart=>exact⟨0,by omega,rfl,H1.o,Fr.refl _ _⟩
  case round=>
   obtain⟨j,hj,rfl,dX,dO⟩:=hrel
   have HR:Hid (aF wr B xb n<|h.dQ i<|({x with s:=2}:PS).pend<|S.take j):=dX
   have FR:Hid (Fr (fun k=>k=xb) w1 wr):=dO
   have rf:∀o,wr.frozen? ⟨xb,o,af⟩=false:=jS dX.blk
   by_cases aI:j<S.length
   ·obtain⟨q,hq⟩:∃q,S[j]? =ae q:=⟨_,eY aI⟩
    obtain⟨q',rfl,mZ⟩:=Q9.o q<|gz hq
    have HT:Hid (({x with s:=2}:PS).pend (S.take<|j+1)=(({x with s:=2}:PS).pend<|S.take j).tie q' 2):=by
     show PS.pend _ _=_;rw[AP,hq,EX,PS.agf]
    have dF:=dO.ownsRow V1.o (fun k hk e=>by have:=(V1.o.lt k hk).1;omega)
    obtain⟨g,gc,xq,_⟩:=Jl dF<|by omega
    simp only[aD6]at xq
    obtain⟨rfl,_,rfl⟩:=xq
    have cq:=yH dF hq
    have e3:wr.cell? ⟨xb,6+i*10+3+q',af⟩=ae (.int .i64<|(({x with s:=2}:PS).pend<|S.take j).aZ.getD q' 0):=by
     rw[zG];exact dX.iY (tJ HX.o) (3+q') _<|Lj _ mZ
    have rV:(0:Int)<=(q':Int):=by omega
    have vV:(q':Int)<4:=by omega
    have hj0:(0:Int)<=(j:Int):=by omega
    have rW:(j:Int)<S.length:=by omega
    clear dF dX dO hq
    go_wp2_with fail
    go_roundw
    case rel=>
     have hs:=HR.o.setCell ((({x with s:=2}:PS).pend<|S.take j).tie q' 2) (j:=3+q') (v:=ag ah 2) (tJ HX.o) (by omega)<|Wi _ mZ 2
     rw[G7,<-zG]at hs
     refine⟨j+1,by omega,by go_num,?_,FR.o.trans hs.2 fun _=>.inl⟩
     rw[HT.o]
     exact hs.1
    case measure=>simp[fH]<;>omega
   ·have HT:Hid (S.take j=S):=DJ (by omega)
    have e8:=dX.iY (tJ HX.o) 8 _ rfl
    have e9:=dX.iY (tJ HX.o) 9 _ rfl
    clear dX dO
    go_wp2_with fail
    go_end0
    have s1:=HR.o.setCell {(({x with s:=2}:PS).pend<|S.take j)with wa:=1} (j:=8) (v:=ag ah 1) (tJ HX.o) (by omega) rfl
    rw[G7]at s1
    have s2:=s1.1.setCell {(({x with s:=2}:PS).pend<|S.take j)with wa:=1,ga:=1} (j:=9) (v:=ag ah 1) (tJ HX.o) (by omega) rfl
    rw[G7]at s2
    refine⟨rfl,?_,(((FW.o.trans F1.o fun _ h=>h.elim).trans FR.o fun _=>.inl).trans s1.2 fun _=>.inl).trans s2.2 fun _=>.inl⟩
    rw[HS.o,<-HT.o]
    exact s2.1
end
end
def aop(m k:Nat):jZ m (k+1)=UInt8.ofNat (m/256^k%256)::jZ m k:=by
 induction k generalizing m with
 |zero=>simp[jZ]
 |succ k ih=>
  rw[jZ,ih<|m/256];show UInt8.ofNat (m/256/256^k%256)::jZ (m/256) k++[UInt8.ofNat<|m%256]=_;rw[Nat.div_div_eq_div_mul,Nat.pow_succ,aap];rfl
def aoq(m k i:Nat)(h:i<k):(jZ m k)[i]? =ae (UInt8.ofNat<|m/256^(k-1-i)%256):=by
 induction k generalizing i with
 |zero=>omega
 |succ k ih=>
  rw[aop];match i with
  |0=>simp
  |i+1=>
   rw[zB,ih i<|by omega];have:k-1-i=k+1-1-(i+1):=by omega
   rw[this]
def numOf(l:List UInt8):Nat:=l.foldl (fun n x=>n*256+x.toNat) 0
def aaW(l:List UInt8)(x:UInt8):numOf (l++[x])=numOf l*256+x.toNat:=by simp[numOf,VU]
def aor(l:List UInt8):numOf l<256^l.length:=by
 suffices h:∀(k:Nat) (l:List UInt8),l.length=k->numOf l<256^k from h _ l rfl
 intro k;induction k with
 |zero=>intro l hl;rw[QK.1 hl];simp[numOf]
 |succ k ih=>
  intro l hl;have dh:l≠[]:=fun e=>by simp[e]at hl
  rw[<-List.dropLast_concat_getLast dh,aaW];have h1:=ih l.dropLast (by simp[hl]);have h2:=(l.getLast dh).toNat_lt;rw[Nat.pow_succ];simp at h2;omega
def aos(m k:Nat):numOf (jZ m k)=m%256^k:=by
 induction k generalizing m with
 |zero=>simp[jZ,numOf,Nat.mod_one]
 |succ k ih=>
  rw[jZ,aaW,ih,Nat.pow_succ,aap<|256^k,Nat.mod_mul];simp<;>omega
def agh{m k:Nat}(h:m<256^k):numOf (jZ m k)=m:=by rw[aos,Nat.mod_eq_of_lt h]
section
def nT(l:List UInt8):Int:=(qw l).2*65536+(qw l).1
def wrap_u32{n:Int}(h0:0<=n)(hm:n<4294967296):IntKind.u32.wrap n=n:=by
 unfold IntKind.wrap;simp[IntKind.bits,IntKind.signed]<;>omega
def wrap_u64{n:Int}(h0:0<=n)(hm:n<18446744073709551616):IntKind.u64.wrap n=n:=by
 unfold IntKind.wrap;simp[IntKind.bits,IntKind.signed]<;>omega
def tK(w:aj)(g o:Nat)(l:List UInt8):Prop:=∀j x,l[j]? =ae x->w.cell? ⟨g,o+j,af⟩=ae (.int .u8 x.toNat)
variable{n g o cap x:Nat}{w:aj}{l:List UInt8}
def agi(h:tK w g o l)(hl:l.length<=1000):
 aU prog 195 #[aJ (ae ⟨g,o,af⟩) l.length cap] w fun e w'=>e=aT (.int .u32<|nT l)/\w=w':=by
 have HB:Hid (tK w g o l):=h;obtain⟨n,hn⟩:∃n,l.length=n:=⟨_,rfl⟩;rw[hn]at hl⊢
 clear h;go_enter func195,ntmps195
 go_wp2_with fail
 go_loopw [3,4,9] (fun a b i w'=>∃k:Nat,k<=n/\i=ag ah k/\a=.int .u32 (qw<|l.take k).1/\b=.int .u32 (qw<|l.take k).2/\w=w') (fun _ _ i _=>(n-fH i).toNat)
 case atStart=>exact⟨0,by omega,rfl,rfl,rfl,rfl⟩
 case round=>
  obtain⟨k,hk,rfl,rfl,rfl,rfl⟩:=hrel
  by_cases aI:k<n
  ·obtain⟨c,hc⟩:∃c,l[k]? =ae c:=⟨_,eY<|by omega⟩
   have hcell:=HB.o k c hc
   have HA:Hid (qw (l.take<|k+1)=BU (qw<|l.take k) c):=by show qw (l.take<|k+1)=_;rw[AP,hc,EX,aoh]
   have DU:=QZ<|l.take k
   generalize qw (l.take k)=ab at HA DU
   obtain⟨a,b⟩:=ab
   simp only at DU⊢
   obtain⟨i1,i2,i3,i4⟩:=DU
   obtain⟨x,hx⟩:∃x:Int,(c.toNat:Int)=x:=⟨_,rfl⟩
   rw[hx]at hcell
   have og:0<=x:=by omega
   have gJ:x<256:=by have:=c.toNat_lt;omega
   obtain⟨a1,Nq⟩:∃a1:Int,(a+x)%65521=a1:=⟨_,rfl⟩
   obtain⟨b1,Dl⟩:∃b1:Int,(b+a1)%65521=b1:=⟨_,rfl⟩
   have q1:IntKind.u32.wrap (a+x)=a+x:=wrap_u32 (by omega)<|by omega
   have q2:(a+x).tmod 65521=a1:=by rw[amS<|by omega];exact Nq
   have q3:IntKind.u32.wrap (b+a1)=b+a1:=wrap_u32 (by omega)<|by omega
   have q4:(b+a1).tmod 65521=b1:=by rw[amS<|by omega];exact Dl
   have q5:IntKind.u32.wrap x=x:=wrap_u32 og<|by omega
   have q6:IntKind.u32.wrap a1=a1:=wrap_u32 (by omega)<|by omega
   have q7:IntKind.u32.wrap b1=b1:=wrap_u32 (by omega)<|by omega
   have Ko:Hid (qw (l.take<|k+1)=(a1,b1)):=by show qw (l.take<|k+1)=(a1,b1);rw[HA.o];simp only[BU];rw[hx,Nq,Dl]
   have uS:(0:Int)<=(k:Int):=by omega
   have aQ:(k:Int)<n:=by omega
   clear HA Nq Dl i1 i2 i3 i4 og gJ hc
   go_wp2_with fail
   go_roundw
   case rel=>exact⟨k+1,by omega,by go_num,by rw[Ko.o],by rw[Ko.o],trivial⟩
   case measure=>simp[fH]<;>omega
  ·have hkn:k=n:=by omega
   have HT:Hid (l.take k=l):=DJ<|by omega
   subst hkn
   have DU:=QZ l
   have HE:Hid (nT l=(qw l).2*65536+(qw l).1):=rfl
   rw[HT.o]
   generalize qw l=ab at DU HE
   obtain⟨a,b⟩:=ab
   simp only at DU⊢
   obtain⟨i1,i2,i3,i4⟩:=DU
   have q1:IntKind.u32.wrap (b*65536)=b*65536:=wrap_u32 (by omega)<|by omega
   have q2:IntKind.u32.wrap (b*65536+a)=b*65536+a:=wrap_u32 (by omega)<|by omega
   clear i1 i2 i3 i4
   go_wp2_with fail
   go_ret
   exact⟨by rw[HE.o];rfl,rfl⟩
def aot(hn:n<72057594037927936)(hx:x<256):(BitVec.ofInt 64 ((n:Int)*256)|||BitVec.ofInt 64 (x:Int)).toNat=n*256+x:=by
 have e1:BitVec.ofInt 64 ((n:Int)*256)=BitVec.ofNat 64 (n*256):=by
  apply BitVec.eq_of_toNat_eq;simp<;>omega
 have e2:BitVec.ofInt 64 (x:Int)=BitVec.ofNat 64 x:=by
  apply BitVec.eq_of_toNat_eq;simp
 rw[e1,e2,BitVec.toNat_or,BitVec.toNat_ofNat,BitVec.toNat_ofNat,Nat.mod_eq_of_lt<|by omega,Nat.mod_eq_of_lt<|by omega];have:=Nat.two_pow_add_eq_or_of_lt (i:=8) (show x<2^8 by omega) n;rw[aap n 256];exact this.symm
def aou(hn:n<72057594037927936)(hx:x<256):bits .or .u64 ((n:Int)*256) (x:Int)=((n*256+x:Nat):Int):=by
 have:=aot hn hx;show IntKind.u64.wrap _=_;rw[show(BitVec.ofInt IntKind.u64.bits ((n:Int)*256)|||BitVec.ofInt IntKind.u64.bits (x:Int)).toNat=n*256+x from this];exact wrap_u64 (by omega)<|by omega
def agj(h:tK w g o l)(hl:l.length<=8):
 aU prog 178 #[aJ (ae ⟨g,o,af⟩) l.length cap] w fun e w'=>e=aT (.int .u64<|numOf l)/\w=w':=by
 have HB:Hid (tK w g o l):=h;obtain⟨n,hn⟩:∃n,l.length=n:=⟨_,rfl⟩;rw[hn]at hl⊢
 clear h;go_enter func178,ntmps178
 go_wp2_with fail
 go_loopw [3,8] (fun a i w'=>∃k:Nat,k<=n/\i=ag ah k/\a=.int .u64 (numOf<|l.take k)/\w=w') (fun _ i _=>(n-fH i).toNat)
 case atStart=>exact⟨0,by omega,rfl,rfl,rfl⟩
 case round=>
  obtain⟨k,hk,rfl,rfl,rfl⟩:=hrel
  by_cases aI:k<n
  ·obtain⟨c,hc⟩:∃c,l[k]? =ae c:=⟨_,eY<|by omega⟩
   have hcell:=HB.o k c hc
   have HA:Hid (numOf (l.take<|k+1)=numOf (l.take k)*256+c.toNat):=by show numOf (l.take<|k+1)=_;rw[AP,hc,EX,aaW]
   have lU:=aor<|l.take k
   have hp:256^(l.take k).length<=256^7:=Nat.pow_le_pow_right (by omega) (by simp<;>omega)
   generalize numOf (l.take k)=m at HA lU⊢
   have hm:m<72057594037927936:=by omega
   obtain⟨x,hx⟩:∃x:Nat,c.toNat=x:=⟨_,rfl⟩
   rw[hx]at hcell HA
   have gJ:x<256:=by have:=c.toNat_lt;omega
   clear lU hp hx hc
   go_wp2_with fail
   go_roundw
   case rel=>exact⟨k+1,by omega,by go_num,by rw[HA.o,aou hm gJ],trivial⟩
   case measure=>simp[fH]<;>omega
  ·have hkn:k=n:=by omega
   have HT:Hid (l.take k=l):=DJ<|by omega
   subst hkn
   rw[HT.o]
   go_wp2_with fail
   go_ret
   exact⟨rfl,rfl⟩
def tK.sub(h:tK w g o l)(i n:Nat):tK w g (o+i) ((l.drop i).take n):=fun j x hj=>by
 rw[List.getElem?_take]at hj;split at hj
 ·rw[List.getElem?_drop]at hj;rw[zG];exact h _ _ hj
 ·cases hj
def Rf(l:List UInt8):Bool:=decide<|((numOf ((l.drop 12).take 4):Nat):Int)=nT (l.take 12)
def aov(w:aj)(a:Option Addr)(hn:n<16):aU prog 177 #[.slice a n cap] w fun r w'=>r=aT (aB false)/\Fr aP w w':=by
 match n,hn with
 |0,_|1,_|2,_|3,_|4,_|5,_|6,_|7,_|8,_|9,_|10,_|11,_|12,_|13,_|14,_|15,_=>
  go_enter func177,ntmps177
  go_wp2_with fail
  go_quiet (fail)
  go_wp2
  go_ret;exact⟨rfl,(Fr.refl _ _).drewN _⟩
 |n+16,h=>omega
def aow(h:tK w g o l)(hl:16<=l.length)(xn:l.length<=cap):
 aU prog 177 #[aJ (ae ⟨g,o,af⟩) l.length cap] w fun e w'=>e=aT (.bool<|Rf l)/\Fr aP w w':=by
 have H1:Hid (tK w g (o+12)<|(l.drop 12).take 4):=h.sub 12 4;have H2:Hid (tK w g o<|l.take 12):=by have:=h.sub 0 12;simp at this;exact this
 have L1:Hid (((l.drop 12).take 4).length=4):=by show((l.drop 12).take 4).length=4;simp<;>omega
 have L2:Hid ((l.take 12).length=12):=by show(l.take 12).length=12;simp<;>omega
 have HW:Hid (Rf l=decide (((numOf ((l.drop 12).take 4):Nat):Int)=nT (l.take 12))):=rfl;obtain⟨n,hn⟩:∃n,l.length=n:=⟨_,rfl⟩;rw[hn]at hl xn⊢
 generalize(l.drop 12).take 4=l1 at H1 L1 HW;generalize l.take 12=l2 at H2 L2 HW;have sS:(16:Int)<=n:=by omega
 have fE:=QZ l2;have UL:0<=nT l2:=by unfold nT;omega
 have as1:nT l2<4294967296:=by unfold nT;omega
 have as2:IntKind.u64.wrap (nT l2)=nT l2:=wrap_u64 UL (by omega);have o6:(16:Int)<=cap:=by omega
 have lI:(12:Int)<=cap:=by omega
 have hc3:¬cap=12:=by omega
 clear h fE;go_enter func177,ntmps177
 go_wp2_with fail
 go_region_held3 (fun _=>True) (first|trivial|go_keep)
  (first
    |(go_at_call 178;refine(show aU prog 178 _ _ _ from by have:=agj (w:=w.drew) (cap:=cap-12) H1.o (by have:=L1.o;omega);rw[L1.o]at this;exact this).mono ?_;rintro e w1 ⟨rfl,rfl⟩)
    |(go_at_call 195;refine(show aU prog 195 _ _ _ from by have:=agi (w:=w.drew) (cap:=cap) H2.o (by have:=L2.o;omega);rw[L2.o]at this;exact this).mono ?_;rintro e w2 ⟨rfl,rfl⟩))
 go_wp2
 go_ret;exact⟨by rw[HW.o];exact fG (fun b=>Ending.returned<|aB b) rfl,(Fr.refl _ _).drew⟩
end
section
def aaY:(prog.info? 5).map (fun i=>(i.zero,i.size,i.bytes))=ae (ae<|.int .u8 0,1,1):=by kernel_rfl
def dV(l:List UInt8):List Value:=l.map fun b=>.int .u8 b.toNat
def E7(l:List UInt8):(dV l).length=l.length:=by simp[dV]
def Wj(l m:List UInt8):dV (l++m)=dV l++dV m:=by simp[dV]
def aoy(m j:Nat):((m:Int)/2^(8*j)%256)=((UInt8.ofNat<|m/256^j%256).toNat:Int):=by
 rw[UInt8.toNat_ofNat'];have:(2:Int)^(8*j)=((256^j:Nat):Int):=by
  rw[Int.pow_mul];simp
 rw[this];omega
variable{w:aj}{B n:Nat}{l:List UInt8}{x:Int}
def agk{v:az}{m k:Nat}(h:w.ownsRow B 5 1 v l.length (dV l))(hk:k<=8)(hl:l.length<=1000)(hB:B<=w.heap.size):
 aU prog 194 #[v,.int .u64 m,ag ah k] w fun e w'=>∃v',e=aT v'/\w'.ownsRow B 5 1 v' (l++jZ m k).length (dV<|l++jZ m k)/\Fr (fun x=>B<=x) w w':=by
 have HV:Hid (w.ownsRow B 5 1 v l.length<|dV l):=h;obtain⟨i0,dR,iE,gG,iU⟩:=aEd aaY;clear h;go_enter func194,ntmps194
 go_wp2_with fail
 go_loopw [0,9] (fun v' i w'=>∃j:Nat,j<=k/\i=ag ah j/\w'.ownsRow B 5 1 v' (l++(jZ m k).take j).length (dV<|l++(jZ m k).take j)/\Fr (fun x=>B<=x) w w') (fun _ i _=>(k-fH i).toNat)
 case atStart=>exact⟨0,by omega,rfl,by simpa using HV.o,Fr.refl _ _⟩
 case round=>
  obtain⟨j,hj,rfl,dF,dO⟩:=hrel
  have HF:Hid (Fr (fun x=>B<=x) w wr):=dO
  obtain⟨p,hp⟩:∃p,l++(jZ m k).take j=p:=⟨_,rfl⟩
  rw[hp]at dF
  have HP:Hid (l++(jZ m k).take j=p):=hp
  have iR:p.length=l.length+j:=by rw[<-hp];simp[QY]<;>omega
  have eH:=dO.size
  have sU:p.length<=1008:=by omega
  obtain⟨va,vc,rfl,_⟩:=pq dF
  obtain⟨pl,Qr⟩:∃pl,p.length=pl:=⟨_,rfl⟩
  have HW:Hid (wr.ownsRow B 5 1 (.slice va pl vc) pl<|dV p):=by rw[<-Qr];exact dF
  rw[Qr]at sU⊢
  have zJ:Hid (p.length=pl):=Qr
  by_cases aI:j<k
  ·have HG:Hid (l++(jZ m k).take (j+1)=p++[UInt8.ofNat<|m/256^(k-1-j)%256]):=by
    show l++(jZ m k).take (j+1)=_;rw[AP,aoq m k j aI,EX,<-AQ,HP.o]
   have HBY:Hid ((m:Int)/2^(8*(k-1-j))%256=((UInt8.ofNat<|m/256^(k-1-j)%256).toNat:Int)):=aoy m<|k-1-j
   clear dO hp iR Qr dF
   have rW:(j:Int)<k:=by omega
   have q1:(0:Int)<=(k:Int)-1-j:=by omega
   go_wp2_with (at_builtin;refine aEu _ rfl _ _ 99 rfl B 5 i0 _ 1 1 underlying99 dR iE gG iU rfl (by decide) _ _ (dV p) rfl (by exact HW.o.alloc _) ⟨wr.heap.size,0,af⟩ 1 1 [.int .u8<|(m:Int)/2^(8*(k-1-j))%256] rfl rfl (aD7 (cs:=#[.int .u8<|(m:Int)/2^(8*(k-1-j))%256]) (t:=5) (fr:=(0,0))<|aDY _ _) (by simp[Value.oneCell']) (by decide) (by simp only[dU];omega) (by omega) (by simp<;>omega) (wr.heap.size+1) (by simp) ?_;intro gg Oq w3 pY mO vk uk)
   go_roundw
   case rel=>
    have Di:Fr (fun x=>B<=x) wr w3:=((Fr.refl _ _).alloc _).grown mO fun x ex=>.inl (HW.o.lt x ex).1
    refine⟨j+1,by omega,by go_num,?_,HF.o.trans Di fun _ h=>.inl h⟩
    rw[HG.o,iV,zJ.o,Wj]
    rw[HBY.o]at pY
    exact pY
   case measure=>simp[fH]<;>omega
  ·have Nr:j=k:=by omega
   have HT:Hid (l++jZ m k=p):=by have:=HP.o;rw[DJ (by rw[QY];omega)]at this;exact this
   clear dO hp iR Qr dF
   subst Nr
   go_wp2_with fail
   go_ret
   exact⟨_,rfl,by rw[HT.o,zJ.o];exact HW.o,HF.o⟩
def tK.agl{g cap:Nat}(h:w.ownsRow B 5 1 (aJ (ae ⟨g,0,af⟩) n cap) l.length (dV l)):tK w g 0 l:=fun j x hj=>by
 have:=h.cells (g:=g) rfl j (.int .u8 x.toNat) (by simp[dV,hj]);rw[aEn]at this;exact this
def aaZ(h0:0<=x)(h1:x<256):IntKind.u8.wrap x=x:=by
 unfold IntKind.wrap;simp[IntKind.bits,IntKind.signed]<;>omega
def G8(h0:0<=x)(h1:x<256):jZ x.toNat 1=[UInt8.ofNat x.toNat]:=by
 simp[jZ];congr 1;omega
def toNat_one(h0:0<=x)(h1:x<256):((UInt8.ofNat x.toNat).toNat:Int)=x:=by
 rw[UInt8.toNat_ofNat'];omega
def aa0(w:aj){r:Rc}(h:r.Small n)(hn:n<1000000000000):
 aU prog 171 #[gY #[ag ah r.k,ag ah r.p,ag ah r.a,ag ah r.m]] w fun e w'=>∃v,e=aT v/\w'.ownsRow w.heap.size 5 1 v 16 (dV<|dJ r)/\Fr aP w w':=by
 obtain⟨k0,k1,p0,p1,a0,a1,m0,m1⟩:=h;have q1:IntKind.u8.wrap r.k=r.k:=aaZ (by omega) (by omega);have q2:IntKind.u8.wrap r.p=r.p:=aaZ (by omega) (by omega);have q3:IntKind.u8.wrap r.a=r.a:=aaZ (by omega) (by omega);have q4:IntKind.u64.wrap r.m=r.m:=wrap_u64 (by omega) (by omega);obtain⟨l4,Np⟩:∃l4:List UInt8,l4=[UInt8.ofNat r.k.toNat,UInt8.ofNat r.p.toNat,UInt8.ofNat r.a.toNat,0]:=⟨_,rfl⟩;have HB4:Hid (dV l4=[.int .u8 r.k,.int .u8 r.p,.int .u8 r.a,.int .u8 0]):=by
  show dV l4=_;rw[Np];simp only[dV,uF,wC];rw[toNat_one (by omega)<|by omega,toNat_one (by omega)<|by omega,toNat_one (by omega)<|by omega];rfl
 have HL4:Hid (l4.length=4):=by show l4.length=4;rw[Np];rfl
 have HH:Hid (l4++jZ r.m.toNat 8=ku r):=by
  show l4++jZ r.m.toNat 8=ku r;unfold ku;rw[Np,G8 (by omega)<|by omega,G8 (by omega)<|by omega,G8 (by omega)<|by omega];rfl
 have HM:Hid (r.m=(r.m.toNat:Int)):=by show r.m=(r.m.toNat:Int);omega
 have fE:=QZ<|ku r;have UL:0<=nT (ku r):=by unfold nT;omega
 have as1:nT (ku r)<4294967296:=by unfold nT;omega
 have as2:IntKind.u64.wrap (nT<|ku r)=nT (ku r):=wrap_u64 UL (by omega);have HS:Hid (nT (ku r)=((nT<|ku r).toNat:Int)):=by show nT (ku r)=((nT<|ku r).toNat:Int);omega
 have HR:Hid (ku r++jZ (nT<|ku r).toNat 4=dJ r):=rfl;clear Np fE UL as1 k0 k1 p0 p1 a0 a1 m0 m1;go_enter func171,ntmps171
 go_wp2_with fail
 obtain⟨W,hW⟩:∃W,((w.alloc<|aC #[ag ah r.k,ag ah r.p,ag ah r.a,ag ah r.m] 184).alloc<|aC #[.int .u8 r.k,.int .u8 r.p,.int .u8 r.a,.int .u8 0] 5)=W:=⟨_,rfl⟩;have HWF:Hid (Fr aP w W):=by rw[<-hW];exact(bG _).alloc _
 have HW0:W.ownsRow w.heap.size 5 1 (aJ (ae ⟨w.heap.size+1,0,af⟩) 4 4) l4.length (dV l4):=by
  rw[<-hW,HL4.o,HB4.o];have:=aFd (base:=w.heap.size) (e:=5) (size:=1) (w.alloc<|aC #[ag ah r.k,ag ah r.p,ag ah r.a,ag ah r.m] 184) #[.int .u8 r.k,.int .u8 r.p,.int .u8 r.a,.int .u8 0] 4 (by simp) (by decide) (by simp);simpa using this
 have HW:Hid (W.ownsRow w.heap.size 5 1 (aJ (ae ⟨w.heap.size+1,0,af⟩) 4 4) l4.length<|dV l4):=HW0;rw[hW];clear hW HW0;have tH:Hid (aU prog 194 #[aJ (ae ⟨w.heap.size+1,0,af⟩) 4 4,.int .u64 r.m,ag ah 8] W fun e w'=>∃v',e=aT v'/\w'.ownsRow w.heap.size 5 1 v' (ku r).length (dV<|ku r)/\Fr (fun x=>w.heap.size<=x) W w'):=by
  have:=agk (m:=r.m.toNat) (k:=8) HW.o (by decide) (by have:=HL4.o;omega) HWF.o.size;rw[<-HM.o,HH.o]at this;exact this
 refine tH.o.mono ?_;rintro e w1 ⟨v1,rfl,jJ,bM⟩;have F1:Hid (Fr aP w w1):=HWF.o.trans bM fun _ h=>.inr h;have V1:Hid (w1.ownsRow w.heap.size 5 1 v1 (ku r).length<|dV<|ku r):=jJ;obtain⟨g,cap,rfl,xn⟩:=Jl jJ (by rw[Oz];decide);have HB:Hid (tK w1 g 0<|ku r):=tK.agl jJ;have HRL:Hid ((ku r).length=12):=Oz r;have gG:=F1.o.size;clear jJ bM tH;have sV:Hid (aU prog 195 #[aJ (ae ⟨g,0,af⟩) (ku r).length cap] w1 fun e w'=>e=aT (.int .u32<|nT<|ku r)/\w1=w'):=agi HB.o (by rw[Oz];decide);have HC3:Hid (aU prog 194 #[aJ (ae ⟨g,0,af⟩) (ku r).length cap,.int .u64<|nT<|ku r,ag ah 4] w1 fun e w'=>∃v',e=aT v'/\w'.ownsRow w.heap.size 5 1 v' (dJ r).length (dV<|dJ r)/\Fr (fun x=>w.heap.size<=x) w1 w'):=by
  have:=agk (m:=(nT<|ku r).toNat) (k:=4) V1.o (by decide) (by have:=HRL.o;omega) gG;rw[<-HS.o,HR.o]at this;exact this
 go_wp2_with (first
  |(go_at_call 195;(with_reducible refine sV.o.mono ?_);rintro e w2 ⟨rfl,rfl⟩)
  |(go_at_call 194;(with_reducible refine HC3.o.mono ?_);rintro e w3 ⟨v3,rfl,Qq,lZ⟩;have V3:Hid (w3.ownsRow w.heap.size 5 1 v3 (dJ r).length<|dV<|dJ r):=Qq;have F3:Hid (Fr (fun x=>w.heap.size<=x) w1 w3):=lZ;clear Qq lZ))
 go_ret;refine⟨_,rfl,?_,F1.o.trans F3.o fun _ h=>.inr h⟩;have:=V3.o;rw[BV]at this;exact this
end
section
def wG(r:Rc):Value:=gY #[ag ah r.k,ag ah r.p,ag ah r.a,ag ah r.m]
def HS.mX(h:HS)(jv:az)(new:List az):HS:={h with jv:=jv,jb:=h.jb++new}
def HS.agp(h:HS)(jv:az)(new:List az):h.cells.toArray.setIfInBounds 4 jv=(h.mX jv new).cells.toArray:=by
 simp[HS.cells,HS.mX]
def agq(x:PS):x.pend (bI x.aZ 1 4)={x with a:=mW x.a,b:=mW x.b,c:=mW x.c,d:=mW x.d}:=by
 obtain⟨e,t,s,a,b,c,d,si,wa,ga⟩:=x;have hr:List.range 4=[0,1,2,3]:=rfl;by_cases ha:1<=a<;>by_cases hb:1<=b<;>by_cases hc:1<=c<;>by_cases hd:1<=d<;>
  simp[bI,hr,PS.aZ,PS.pend,PS.tie,mW,ha,hb,hc,hd,List.filter]
def aoC(w:aj)(b:Nat):(Instr.index 193 (.agg<|qZ b)<|ag ah 1).run prog w=.ok (.func (.func 179) #[] #[ay<|ae ⟨b,0,af⟩]) w:=by kernel_rfl
def aoD(w:aj)(b:Nat):(Instr.index 193 (.agg<|qZ b)<|ag ah 2).run prog w=.ok (.func (.func 180) #[] #[ay<|ae ⟨b,0,af⟩]) w:=by kernel_rfl
def aoE(w:aj)(b:Nat):(Instr.index 193 (.agg<|qZ b)<|ag ah 3).run prog w=.ok (.func (.func 181) #[] #[ay<|ae ⟨b,0,af⟩]) w:=by kernel_rfl
def aoF(w:aj)(b:Nat):(Instr.index 193 (.agg<|qZ b)<|ag ah 4).run prog w=.ok (.func (.func 182) #[] #[ay<|ae ⟨b,0,af⟩]) w:=by kernel_rfl
def HS.aoG(h:HS):h.mX h.jv []=h:=by simp[HS.mX]
def agr(l:List UInt8):∀u∈dV l,u.oneCell'=true:=by
 intro u hu;simp only[dV,Je]at hu;obtain⟨b,_,rfl⟩:=hu;rfl
def OB{h:HS}{i:Nat}{x:PS}{r:Rc}{jv:az}{new:List az}(hx:h.ps[i]? =ae x)(hr:r.p=i):({h.mX jv new with ps:=jV h.ps r}:HS)=(h.mX jv new).dQ i (x.bY r):=by
 have:r.p.toNat=i:=by omega
 simp[jV,HS.dQ,HS.mX,this,List.getD,hx]
section
variable{w w':aj}{B xb n:Nat}{h:HS}
def aF.ags{W w3:aj}{jv:az}{m:Nat}{new:List az}(hh:aF w B xb n h)(fW:Fr aP w W)(hg:W.grownBy w3 h.jv.ownBlock)(iO:w3.ownsRow B 5 1 jv (h.jb.length+m) (h.jb++new))(hm:new.length=m)(dX:∀q,jv.ownBlock=ae q->h.jv.ownBlock=ae q\/w.heap.size<=q):
 aF (w3.setCell ⟨xb,4,af⟩ jv) B xb n (h.mX jv new)/\Fr (fun k=>k=xb\/h.jv.ownBlock=ae k) w (w3.setCell ⟨xb,4,af⟩ jv):=by
 have aI:=aX hh.blk;have f3:Fr (fun q=>h.jv.ownBlock=ae q) w w3:=(fW.mono fun _ h=>h.elim).grown hg fun q e=>.inl e;have b3:w3.heap[xb]? =ae (.cells h.cells.toArray 111 (0,0)):=(f3.block xb aI hh.QV).trans hh.blk;have fs:Fr (fun q=>q=xb) w3 (w3.setCell ⟨xb,4,af⟩ jv):=(Fr.refl (fun q=>q=xb) w3).setCell (p:=⟨xb,4,af⟩) (.inl rfl) _;have f4:Fr (fun k=>k=xb\/h.jv.ownBlock=ae k) w (w3.setCell ⟨xb,4,af⟩ jv):=(f3.mono fun q e=>.inl<|.inr e).trans fs fun q e=>.inl<|.inl e;have row:∀{ty:dw} {wd:Nat} {v:az} {k:Nat} {xs:List az},w.ownsRow B ty wd v k xs->ty≠5->ty≠111->(w3.setCell ⟨xb,4,af⟩ jv).ownsRow B ty wd v k xs:=fun ho h5 h1=>f4.ownsRow ho (fun q hq e=>by
  have t0:=iK ho hq;rcases e with e|e
  ·subst e;rw[lM hh.blk]at t0;exact h1 t0.symm
  ·rw[iK hh.kT e]at t0;exact h5 t0.symm)
 refine⟨⟨?_,?_,row hh.jU (by decide)<|by decide,row hh.mV (by decide)<|by decide,fun p hp=>(hh.ed p hp).stay f4 fun q hq hf=>?_,hh.hx,hh.hP,hh.hQ,hh.h6⟩,f4⟩
 ·rw[jT b3,HS.agp h jv new]
 ·show(w3.setCell ⟨xb,4,af⟩ jv).ownsRow B 5 1 jv (h.jb++new).length (h.jb++new);rw[iV,hm];refine fs.ownsRow iO fun q hq e=>?_;subst e;rcases dX _ hq with a|a
  ·exact hh.QV a
  ·omega
 ·rcases hq with hq|hq
  ·have h0:=lM hh.blk;subst hq;rcases(hh.ed p hp).tags hf with h1|h1|h1<;>rw[h0]at h1<;>cases h1
  ·have h0:=iK hh.kT hq;rcases(hh.ed p hp).tags hf with h1|h1|h1<;>rw[h0]at h1<;>cases h1
structure agt(w w':aj)(B xb n:Nat)(h:HS)(r:Rc)(jv:az):Prop where
 at_:aF w' B xb n {h.mX jv (dV<|dJ r)with ps:=jV h.ps r}
 fr:Fr (fun k=>k=xb\/h.jv.ownBlock=ae k) w w'
 Om:∀k,jv.ownBlock=ae k->h.jv.ownBlock=ae k\/w.heap.size<=k
def aoH(hh:aF w B xb n h)(qc:h.br=false){r:Rc}{m:Nat}(hr:r.Small m)(hm:m<1000000000000)(hk:r.k=1\/r.k=2\/(r.k=3/\∃c:Bool,r.a=if c then 1 else 0)\/r.k=4)(hb:h.jb.length+16<=140737488355328):
 aU prog 118 #[ay<|ae ⟨xb,4,af⟩,wG r] w fun e w'=>e=aT (aB true)/\∃jv,agt w w' B xb n h r jv:=by
 have HH:Hid (aF w B xb n h):=hh;have HR:Hid (r.Small m):=hr;have tH:Hid (∀W,aU prog 171 #[wG r] W fun e w'=>∃v,e=aT v/\w'.ownsRow W.heap.size 5 1 v 16 (dV<|dJ r)/\Fr aP W w'):=fun W=>aa0 W hr hm;have c4:=hh.cJ;obtain⟨ja,jc,hj,_⟩:=pq hh.kT;rw[hj]at c4;have G9:=hh.cB;rw[qc]at G9;have HJ:Hid (h.jv=.slice ja h.jb.length jc):=hj;have HJR:Hid (∀W,Fr aP w W->W.ownsRow B 5 1 (.slice ja h.jb.length jc) h.jb.length h.jb):=fun W f=>by rw[<-hj];exact f.ownsRow hh.kT fun _ _=>id
 have Wl:Hid (ae xb≠Value.ownBlock (.slice ja h.jb.length jc)):=by show ae xb≠_;rw[<-hj];exact fun e=>hh.QV e.symm
 have gW:=aX hh.blk;have Rh:Hid (h.jb.length+16<=140737488355328):=hb;obtain⟨i,hi⟩:=uA hr.p0;have jK:i<6:=by have:=hr.p1;omega
 obtain⟨x,hx⟩:∃x,h.ps[i]? =ae x:=⟨_,eY (by rw[hh.h6];exact jK)⟩;have HX:Hid (h.ps[i]? =ae x):=hx;obtain⟨k,p,a,mm⟩:=r;simp only at hk hi;subst hi;have HK:Hid (k=1\/k=2\/(k=3/\∃c:Bool,a=if c then 1 else 0)\/k=4):=hk;clear hk;obtain⟨i0,dR,iE,gG,iU⟩:=aEd aaY;unfold wG;clear hh hj qc hr hb hx;go_enter func118,ntmps118
 go_wp2_with (first
  |(go_at_call 171;refine(show aU prog 171 #[wG ⟨k,i,a,mm⟩] _ _ from tH.o _).mono ?_;rintro e w1 ⟨v1,rfl,jJ,bM⟩
    have F1:Hid (Fr aP w w1):=(bG _).trans bM fun _ h=>h.elim
    obtain⟨g,gc,rfl,_⟩:=Jl jJ<|by decide
    have V1:Hid (w1.ownsRow (w.alloc<|aC #[ag ah k,ag ah i,ag ah a,ag ah mm] 184).heap.size 5 1 (aJ (ae ⟨g,0,af⟩) 16 gc) 16<|dV<|dJ ⟨k,i,a,mm⟩):=jJ
    have d4:=(F1.o.cell (p:=⟨xb,4,af⟩) gW id).trans c4
    have d66:=(F1.o.cell (p:=⟨xb,66,af⟩) gW id).trans G9
    have df:∀o,w1.frozen? ⟨xb,o,af⟩=false:=jS<|(F1.o.block xb gW id).trans HH.o.blk
    have BX:Hid (w1.heap[w.heap.size]? =ae (aC #[ag ah k,ag ah i,ag ah a,ag ah mm] 184 (0,0))):=(bM.block _ (by simp) id).trans<|aDY _ _
    have Wp:Hid (w1.ownsRow B 5 1 (.slice ja h.jb.length jc) h.jb.length h.jb):=HJR.o w1 F1.o
    have HNE:Hid (ae xb≠Value.ownBlock (.slice ja h.jb.length jc)):=Wl.o
    have gJ:xb<w1.heap.size:=fK gW F1.o.size
    clear jJ bM)
  |(at_builtin;refine aEu _ rfl _ _ 99 rfl B 5 i0 _ 1 1 underlying99 dR iE gG iU rfl (by decide) (.slice ja h.jb.length jc) h.jb.length h.jb rfl Wp.o ⟨g,0,af⟩ 16 gc (dV<|dJ ⟨k,i,a,mm⟩) rfl (by rw[E7,BV]) (V1.o.cells (g:=g) rfl) (agr _) (by decide) (by have:=Rh.o;simp only[dU];omega) (by have:=Rh.o;omega) (by have:=HH.o.hx;omega) w1.heap.size rfl ?_;intro gg cap w2 iO pX dX lU
    have G2:Hid (w1.grownBy w2<|Value.ownBlock<|.slice ja h.jb.length jc):=pX
    have e4:=(pX.cell_far ⟨xb,4,af⟩ gJ HNE.o).trans d4
    have ef:=(pX.frozen_far ⟨xb,4,af⟩ gJ HNE.o).trans<|df 4))
 have hD:=HH.o.ags (jv:=aJ (ae ⟨gg,0,af⟩) (h.jb.length+16) cap) (m:=16) (new:=dV<|dJ ⟨k,i,a,mm⟩) F1.o (by rw[HJ.o];exact G2.o) iO (by rw[E7,BV]) (fun q hq=>by
  simp only[Value.ownBlock,gu]at hq;subst hq;rcases dX with e|e
  ·exact .inl (by rw[HJ.o];exact e)
  ·exact .inr (by have:=F1.o.size;omega))
 have Jm:Hid (∀k,Value.ownBlock (aJ (ae ⟨gg,0,af⟩) (h.jb.length+16) cap)=ae k->h.jv.ownBlock=ae k\/w.heap.size<=k):=fun q hq=>by
  simp only[Value.ownBlock,gu]at hq;subst hq;rcases dX with e|e
  ·exact .inl (by rw[HJ.o];exact e)
  ·exact .inr (by have:=F1.o.size;omega)
 have Af:(w2.setCell ⟨xb,4,af⟩<|aJ (ae ⟨gg,0,af⟩) (h.jb.length+16) cap).heap[w.heap.size]? =ae (aC #[ag ah k,ag ah i,ag ah a,ag ah mm] 184 (0,0)):=by
  rw[aD3 _ _ _ _<|show w.heap.size≠xb by omega,G2.o.block w.heap.size (aX BX.o) (fun e=>by
   have h1:=Wp.o.lt w.heap.size e.symm;have h2:=(HH.o.kT.lt w.heap.size (by rw[HJ.o];exact e.symm)).2;omega)]
  exact BX.o
 generalize w2.setCell ⟨xb,4,af⟩ (aJ (ae ⟨gg,0,af⟩) (h.jb.length+16) cap)=W at hD Af⊢
 generalize(Value.slice (ae ⟨gg,0,af⟩) (h.jb.length+16) cap)=jv at hD Jm⊢
 have HW:Hid (aF W B xb n<|h.mX jv<|dV<|dJ ⟨k,i,a,mm⟩):=hD.1;have FW:Hid (Fr (fun k=>k=xb\/h.jv.ownBlock=ae k) w W):=hD.2;have qx:Hid (W.heap[w.heap.size]? =ae (aC #[ag ah k,ag ah i,ag ah a,ag ah mm] 184 (0,0))):=Af;have Wq:Hid ((h.mX jv<|dV<|dJ ⟨k,i,a,mm⟩).ps[i]? =ae x):=HX.o;clear hD Af iO pX dX lU e4 ef d4 d66 df;rcases HK.o with rfl|rfl|⟨rfl,c,hc⟩|rfl
 ·have hix:=aoC;go_region_held3 (fun w'=>w'.cell? ⟨w.heap.size,0,af⟩=ae (ag ah 1)/\w'.cell? ⟨w.heap.size,1,af⟩=ae (ag ah i)/\w'.cell? ⟨w.heap.size,2,af⟩=ae (ag ah a)/\w'.cell? ⟨w.heap.size,3,af⟩=ae (ag ah mm))
   (first|with_reducible exact C2|with_reducible exact C3|exact⟨aK qx.o 0,aK qx.o 1,aK qx.o 2,aK qx.o 3⟩|go_keep)
   (first
     |(go_at_call 128;refine(Oy (w:=W.drew) _).mono ?_;rintro e w3 ⟨rfl,l7,lZ⟩
       have F3:Hid (Fr aP W w3):=((Fr.refl _ _).drew:Fr aP W W.drew).trans lZ fun _ h=>h.elim
       have B3:Hid (wF w3 W.drew.heap.size xb):=l7
       have x3:=(F3.o.block _ (aX qx.o) id).trans qx.o
       have C2:w3.cell? ⟨w.heap.size,0,af⟩=ae (ag ah 1)/\w3.cell? ⟨w.heap.size,1,af⟩=ae (ag ah i)/\w3.cell? ⟨w.heap.size,2,af⟩=ae (ag ah a)/\w3.cell? ⟨w.heap.size,3,af⟩=ae (ag ah mm):=⟨aK x3 0,aK x3 1,aK x3 2,aK x3 3⟩
       have X3:Hid (w3.heap[w.heap.size]? =ae (aC #[ag ah 1,ag ah i,ag ah a,ag ah mm] 184 (0,0))):=x3
       clear l7 lZ x3)
     |(go_at_call 179;refine(af9 (HW.o.after F3.o) B3.o jK Wq.o 1 a mm).mono ?_;rintro e w4 ⟨rfl,h4,rZ⟩
       have H4:Hid (aF w4 B xb n<|(h.mX jv<|dV<|dJ ⟨1,i,a,mm⟩).dQ i {x with e:=mm}):=h4
       have F4:Hid (Fr (fun k=>k=xb) w3 w4):=rZ
       have x4:=(rZ.block _ (aX X3.o)<|show¬w.heap.size=xb by omega).trans X3.o
       have C3:w4.cell? ⟨w.heap.size,0,af⟩=ae (ag ah 1)/\w4.cell? ⟨w.heap.size,1,af⟩=ae (ag ah i)/\w4.cell? ⟨w.heap.size,2,af⟩=ae (ag ah a)/\w4.cell? ⟨w.heap.size,3,af⟩=ae (ag ah mm):=⟨aK x4 0,aK x4 1,aK x4 2,aK x4 3⟩
       clear h4 rZ x4))
  go_wp2_with fail
  go_ret;refine⟨rfl,jv,?_,(FW.o.trans F3.o fun _ h=>h.elim).trans F4.o fun _ e=>.inl<|.inl e,Jm.o⟩;rw[OB (r:=⟨1,i,a,mm⟩) (jv:=jv) (new:=dV<|dJ ⟨1,i,a,mm⟩) HX.o rfl];exact H4.o
 ·obtain⟨q,hq⟩:=uA HR.o.a0;simp only at hq;subst hq;have mZ:q<4:=by have:=HR.o.a1;simp only at this;omega
  have hix:=aoD;go_region_held3 (fun w'=>w'.cell? ⟨w.heap.size,0,af⟩=ae (ag ah 2)/\w'.cell? ⟨w.heap.size,1,af⟩=ae (ag ah i)/\w'.cell? ⟨w.heap.size,2,af⟩=ae (ag ah q)/\w'.cell? ⟨w.heap.size,3,af⟩=ae (ag ah mm))
   (first|with_reducible exact C2|with_reducible exact C3|exact⟨aK qx.o 0,aK qx.o 1,aK qx.o 2,aK qx.o 3⟩|go_keep)
   (first
     |(go_at_call 128;refine(Oy (w:=W.drew) _).mono ?_;rintro e w3 ⟨rfl,l7,lZ⟩
       have F3:Hid (Fr aP W w3):=((Fr.refl _ _).drew:Fr aP W W.drew).trans lZ fun _ h=>h.elim
       have B3:Hid (wF w3 W.drew.heap.size xb):=l7
       have x3:=(F3.o.block _ (aX qx.o) id).trans qx.o
       have C2:w3.cell? ⟨w.heap.size,0,af⟩=ae (ag ah 2)/\w3.cell? ⟨w.heap.size,1,af⟩=ae (ag ah i)/\w3.cell? ⟨w.heap.size,2,af⟩=ae (ag ah q)/\w3.cell? ⟨w.heap.size,3,af⟩=ae (ag ah mm):=⟨aK x3 0,aK x3 1,aK x3 2,aK x3 3⟩
       have X3:Hid (w3.heap[w.heap.size]? =ae (aC #[ag ah 2,ag ah i,ag ah q,ag ah mm] 184 (0,0))):=x3
       clear l7 lZ x3)
     |(go_at_call 180;refine(aga (HW.o.after F3.o) B3.o jK mZ Wq.o 2 mm).mono ?_;rintro e w4 ⟨rfl,h4,rZ⟩
       have H4:Hid (aF w4 B xb n<|(h.mX jv<|dV<|dJ ⟨2,i,q,mm⟩).dQ i<|({x with s:=1,t:=mm}:PS).tie q 1):=h4
       have F4:Hid (Fr (fun k=>k=xb) w3 w4):=rZ
       have x4:=(rZ.block _ (aX X3.o)<|show¬w.heap.size=xb by omega).trans X3.o
       have C3:w4.cell? ⟨w.heap.size,0,af⟩=ae (ag ah 2)/\w4.cell? ⟨w.heap.size,1,af⟩=ae (ag ah i)/\w4.cell? ⟨w.heap.size,2,af⟩=ae (ag ah q)/\w4.cell? ⟨w.heap.size,3,af⟩=ae (ag ah mm):=⟨aK x4 0,aK x4 1,aK x4 2,aK x4 3⟩
       clear h4 rZ x4))
  go_wp2_with fail
  go_ret;refine⟨rfl,jv,?_,(FW.o.trans F3.o fun _ h=>h.elim).trans F4.o fun _ e=>.inl<|.inl e,Jm.o⟩;rw[OB (r:=⟨2,i,q,mm⟩) (jv:=jv) (new:=dV<|dJ ⟨2,i,q,mm⟩) HX.o rfl];exact H4.o
 ·have HC:Hid (a=if c then 1 else 0):=hc;clear hc;have hix:=aoE;go_region_held3 (fun w'=>w'.cell? ⟨w.heap.size,0,af⟩=ae (ag ah 3)/\w'.cell? ⟨w.heap.size,1,af⟩=ae (ag ah i)/\w'.cell? ⟨w.heap.size,2,af⟩=ae (ag ah a)/\w'.cell? ⟨w.heap.size,3,af⟩=ae (ag ah mm))
   (first|with_reducible exact C2|with_reducible exact C3|exact⟨aK qx.o 0,aK qx.o 1,aK qx.o 2,aK qx.o 3⟩|go_keep)
   (first
     |(go_at_call 128;refine(Oy (w:=W.drew) _).mono ?_;rintro e w3 ⟨rfl,l7,lZ⟩
       have F3:Hid (Fr aP W w3):=((Fr.refl _ _).drew:Fr aP W W.drew).trans lZ fun _ h=>h.elim
       have B3:Hid (wF w3 W.drew.heap.size xb):=l7
       have x3:=(F3.o.block _ (aX qx.o) id).trans qx.o
       have C2:w3.cell? ⟨w.heap.size,0,af⟩=ae (ag ah 3)/\w3.cell? ⟨w.heap.size,1,af⟩=ae (ag ah i)/\w3.cell? ⟨w.heap.size,2,af⟩=ae (ag ah a)/\w3.cell? ⟨w.heap.size,3,af⟩=ae (ag ah mm):=⟨aK x3 0,aK x3 1,aK x3 2,aK x3 3⟩
       have X3:Hid (w3.heap[w.heap.size]? =ae (aC #[ag ah 3,ag ah i,ag ah a,ag ah mm] 184 (0,0))):=x3
       clear l7 lZ x3)
     |(go_at_call 181;refine(aaV (HW.o.after F3.o) B3.o jK Wq.o 3 mm (c:=c) (s':=if c then 2 else 3) HC.o rfl).mono ?_;rintro e w4 ⟨rfl,h4,rZ⟩
       have H4:Hid (aF w4 B xb n<|(h.mX jv<|dV<|dJ ⟨3,i,a,mm⟩).dQ i ({({x with s:=if c then 2 else 3}:PS).pend (bI x.aZ 1 4)with wa:=1,ga:=1}:PS)):=h4
       have F4:Hid (Fr (fun k=>k=xb) w3 w4):=rZ
       have x4:=(rZ.block _ (aX X3.o)<|show¬w.heap.size=xb by omega).trans X3.o
       have C3:w4.cell? ⟨w.heap.size,0,af⟩=ae (ag ah 3)/\w4.cell? ⟨w.heap.size,1,af⟩=ae (ag ah i)/\w4.cell? ⟨w.heap.size,2,af⟩=ae (ag ah a)/\w4.cell? ⟨w.heap.size,3,af⟩=ae (ag ah mm):=⟨aK x4 0,aK x4 1,aK x4 2,aK x4 3⟩
       clear h4 rZ x4))
  go_wp2_with fail
  go_ret;refine⟨rfl,jv,?_,(FW.o.trans F3.o fun _ h=>h.elim).trans F4.o fun _ e=>.inl<|.inl e,Jm.o⟩;have he:({({x with s:=if c then 2 else 3}:PS).pend (bI x.aZ 1 4)with wa:=1,ga:=1}:PS)=x.bY ⟨3,i,a,mm⟩:=by
   have:=agq ({x with s:=if c then 2 else 3}:PS);rw[show({x with s:=if c then 2 else 3}:PS).aZ=x.aZ from rfl]at this;rw[this,HC.o];cases c<;>rfl
  rw[OB (r:=⟨3,i,a,mm⟩) (jv:=jv) (new:=dV<|dJ ⟨3,i,a,mm⟩) HX.o rfl,<-he];exact H4.o
 ·have hix:=aoF;go_region_held3 (fun w'=>w'.cell? ⟨w.heap.size,0,af⟩=ae (ag ah 4)/\w'.cell? ⟨w.heap.size,1,af⟩=ae (ag ah i)/\w'.cell? ⟨w.heap.size,2,af⟩=ae (ag ah a)/\w'.cell? ⟨w.heap.size,3,af⟩=ae (ag ah mm))
   (first|with_reducible exact C2|with_reducible exact C3|exact⟨aK qx.o 0,aK qx.o 1,aK qx.o 2,aK qx.o 3⟩|go_keep)
   (first
     |(go_at_call 128;refine(Oy (w:=W.drew) _).mono ?_;rintro e w3 ⟨rfl,l7,lZ⟩
       have F3:Hid (Fr aP W w3):=((Fr.refl _ _).drew:Fr aP W W.drew).trans lZ fun _ h=>h.elim
       have B3:Hid (wF w3 W.drew.heap.size xb):=l7
       have x3:=(F3.o.block _ (aX qx.o) id).trans qx.o
       have C2:w3.cell? ⟨w.heap.size,0,af⟩=ae (ag ah 4)/\w3.cell? ⟨w.heap.size,1,af⟩=ae (ag ah i)/\w3.cell? ⟨w.heap.size,2,af⟩=ae (ag ah a)/\w3.cell? ⟨w.heap.size,3,af⟩=ae (ag ah mm):=⟨aK x3 0,aK x3 1,aK x3 2,aK x3 3⟩
       have X3:Hid (w3.heap[w.heap.size]? =ae (aC #[ag ah 4,ag ah i,ag ah a,ag ah mm] 184 (0,0))):=x3
       clear l7 lZ x3)
     |(go_at_call 182;refine(agd (HW.o.after F3.o) B3.o jK Wq.o 4 a mm).mono ?_;rintro e w4 ⟨rfl,h4,rZ⟩
       have H4:Hid (aF w4 B xb n<|(h.mX jv<|dV<|dJ ⟨4,i,a,mm⟩).dQ i ⟨x.e,x.t,0,0,0,0,0,0,0,0⟩):=h4
       have F4:Hid (Fr (fun k=>k=xb) w3 w4):=rZ
       have x4:=(rZ.block _ (aX X3.o)<|show¬w.heap.size=xb by omega).trans X3.o
       have C3:w4.cell? ⟨w.heap.size,0,af⟩=ae (ag ah 4)/\w4.cell? ⟨w.heap.size,1,af⟩=ae (ag ah i)/\w4.cell? ⟨w.heap.size,2,af⟩=ae (ag ah a)/\w4.cell? ⟨w.heap.size,3,af⟩=ae (ag ah mm):=⟨aK x4 0,aK x4 1,aK x4 2,aK x4 3⟩
       clear h4 rZ x4))
  go_wp2_with fail
  go_ret;refine⟨rfl,jv,?_,(FW.o.trans F3.o fun _ h=>h.elim).trans F4.o fun _ e=>.inl<|.inl e,Jm.o⟩;rw[OB (r:=⟨4,i,a,mm⟩) (jv:=jv) (new:=dV<|dJ ⟨4,i,a,mm⟩) HX.o rfl];exact H4.o
structure aa2(w w':aj)(B xb n:Nat)(h:HS)(r:Rc)(kk:Nat)(jv:az):Prop where
 at_:aF w' B xb n (h.mX jv<|dV<|(dJ r).take kk).qY
 fr:Fr (fun k=>k=xb\/h.jv.ownBlock=ae k) w w'
 Om:∀k,jv.ownBlock=ae k->h.jv.ownBlock=ae k\/w.heap.size<=k
variable{r:Rc}{m:Nat}
def aoI(hh:aF w B xb n h)(qc:h.br=true){kk:Nat}(Ns:h.kp=kk)(aBh:kk<=16)(uS:0<kk)(hr:r.Small m)(hm:m<1000000000000)(hb:h.jb.length+16<=140737488355328):
 aU prog 118 #[ay<|ae ⟨xb,4,af⟩,wG r] w fun e w'=>e=aT (aB false)/\∃jv,aa2 w w' B xb n h r kk jv:=by
 have HH:Hid (aF w B xb n h):=hh;have tH:Hid (∀W,aU prog 171 #[wG r] W fun e w'=>∃v,e=aT v/\w'.ownsRow W.heap.size 5 1 v 16 (dV<|dJ r)/\Fr aP W w'):=fun W=>aa0 W hr hm;have c4:=hh.cJ;obtain⟨ja,jc,hj,_⟩:=pq hh.kT;rw[hj]at c4;have G9:=hh.cB;rw[qc]at G9;have OC:=hh.cK;rw[Ns]at OC;have HJ:Hid (h.jv=.slice ja h.jb.length jc):=hj;have HJR:Hid (∀W,Fr aP w W->W.ownsRow B 5 1 (.slice ja h.jb.length jc) h.jb.length h.jb):=fun W f=>by rw[<-hj];exact f.ownsRow hh.kT fun _ _=>id
 have Wl:Hid (ae xb≠Value.ownBlock (.slice ja h.jb.length jc)):=by show ae xb≠_;rw[<-hj];exact fun e=>hh.QV e.symm
 have gW:=aX hh.blk;have Rh:Hid (h.jb.length+16<=140737488355328):=hb;have hBw:B<=w.heap.size:=aaq<|aai hh.hx gW;have Lc:Hid (((dJ r).take kk).length=kk):=by show((dJ r).take kk).length=kk;rw[EY,BV];omega
 have E8:Hid (∀j u,(dV<|(dJ r).take kk)[j]? =ae u->(dV<|dJ r)[j]? =ae u):=fun j u hu=>by
  simp only[dV,List.map_take]at hu⊢
  rw[List.getElem?_take]at hu;split at hu
  ·exact hu
  ·cases hu
 obtain⟨k,p,a,mm⟩:=r;obtain⟨i0,dR,iE,gG,iU⟩:=aEd aaY;unfold wG;have aBi:(0:Int)<=(kk:Int):=by omega
 have aBj:(kk:Int)<=16:=by omega
 clear hh hj qc hr hb Ns;go_enter func118,ntmps118
 go_wp2_with (first
  |(go_at_call 171;refine(show aU prog 171 #[wG ⟨k,p,a,mm⟩] _ _ from tH.o _).mono ?_;rintro e w1 ⟨v1,rfl,jJ,bM⟩
    have F1:Hid (Fr aP w w1):=(bG _).trans bM fun _ h=>h.elim
    obtain⟨g,gc,rfl,hgc⟩:=Jl jJ<|by decide
    have V1:Hid (w1.ownsRow (w.alloc<|aC #[ag ah k,ag ah p,ag ah a,ag ah mm] 184).heap.size 5 1 (aJ (ae ⟨g,0,af⟩) 16 gc) 16<|dV<|dJ ⟨k,p,a,mm⟩):=jJ
    have d4:=(F1.o.cell (p:=⟨xb,4,af⟩) gW id).trans c4
    have d66:=(F1.o.cell (p:=⟨xb,66,af⟩) gW id).trans G9
    have d67:=(F1.o.cell (p:=⟨xb,67,af⟩) gW id).trans OC
    have df:∀o,w1.frozen? ⟨xb,o,af⟩=false:=jS<|(F1.o.block xb gW id).trans HH.o.blk
    have Wp:Hid (w1.drew.ownsRow B 5 1 (.slice ja h.jb.length jc) h.jb.length h.jb):=HJR.o w1.drew F1.o.drew
    have gJ:xb<w1.heap.size:=fK gW F1.o.size
    have aBk:w.heap.size<=w1.heap.size:=F1.o.size
    have aBl:(kk:Int)<=(gc:Int):=by omega
    clear jJ bM))
 go_region_law
  ((refine aEt _ (by rfl) _ _ _ (by rfl) B 5 i0 _ 1 1 underlying99 dR iE gG iU rfl (by omega) (.slice ja h.jb.length jc) h.jb.length h.jb (by rfl) Wp.o ⟨g,0,af⟩ kk gc (dV<|(dJ ⟨k,p,a,mm⟩).take kk) (by rfl) (by rw[E7,Lc.o,Nat.mul_one]) (fun j u hu=>V1.o.cells (g:=g) rfl j u<|E8.o j u hu) (agr _) (by omega) (by have:=Rh.o;simp only[dU];omega) (by have:=Rh.o;omega) (by simp<;>omega) w1.heap.size (by rfl) ?_;intro gg cap w2 iO pX dX lU
    have e4:=(pX.cell_far ⟨xb,4,af⟩ gJ Wl.o).trans d4
    have ef:=(pX.frozen_far ⟨xb,4,af⟩ gJ Wl.o).trans<|df 4))
 all_goals
  have hD:=HH.o.ags (jv:=aJ (ae ⟨gg,0,af⟩) (h.jb.length+kk) cap) (m:=kk) (new:=dV<|(dJ ⟨k,p,a,mm⟩).take kk) F1.o.drew (by rw[HJ.o];exact pX) iO (by rw[E7,Lc.o]) (fun q hq=>by
   simp only[Value.ownBlock,gu]at hq;subst hq;rcases dX with e|e
   ·exact .inl (by rw[HJ.o];exact e)
   ·exact .inr<|by omega)
  have Jm:Hid (∀k,Value.ownBlock (aJ (ae ⟨gg,0,af⟩) (h.jb.length+kk) cap)=ae k->h.jv.ownBlock=ae k\/w.heap.size<=k):=fun q hq=>by
   simp only[Value.ownBlock,gu]at hq;subst hq;rcases dX with e|e
   ·exact .inl (by rw[HJ.o];exact e)
   ·exact .inr<|by omega
  generalize w2.setCell ⟨xb,4,af⟩ (aJ (ae ⟨gg,0,af⟩) (h.jb.length+kk) cap)=W at hD⊢
  generalize(Value.slice (ae ⟨gg,0,af⟩) (h.jb.length+kk) cap)=jv at hD Jm⊢
  have HW:Hid (aF W B xb n<|h.mX jv<|dV<|(dJ ⟨k,p,a,mm⟩).take kk):=hD.1
  have FW:Hid (Fr (fun k=>k=xb\/h.jv.ownBlock=ae k) w W):=hD.2
  clear hD iO pX dX lU e4 ef d4 d66 d67 df
  go_wp2_with (go_at_call 104;refine(aaN HW.o).mono ?_;rintro e w3 ⟨rfl,h3,lZ⟩;have H3:Hid (aF w3 B xb n (h.mX jv<|dV<|(dJ ⟨k,p,a,mm⟩).take kk).qY):=h3;have F3:Hid (Fr (fun k=>k=xb) W w3):=lZ;clear h3 lZ)
  go_ret
  exact⟨rfl,jv,H3.o,FW.o.trans F3.o fun _ e=>.inl<|.inl e,Jm.o⟩
def aoJ(hh:aF w B xb n h)(qc:h.br=true)(Ns:h.kp=0)(hr:r.Small m)(hm:m<1000000000000):
 aU prog 118 #[ay<|ae ⟨xb,4,af⟩,wG r] w fun e w'=>e=aT (aB false)/\∃jv,aa2 w w' B xb n h r 0 jv:=by
 have HH:Hid (aF w B xb n h):=hh;have tH:Hid (∀W,aU prog 171 #[wG r] W fun e w'=>∃v,e=aT v/\w'.ownsRow W.heap.size 5 1 v 16 (dV<|dJ r)/\Fr aP W w'):=fun W=>aa0 W hr hm;have c4:=hh.cJ;obtain⟨ja,jc,hj,_⟩:=pq hh.kT;have Zj:h.jb.length<=jc:=by
  rcases hh.kT.2 with⟨hv,h0⟩|⟨g,cap,cur,hv,_,_,h1,_⟩
  ·omega
  ·rw[hj]at hv;simp only[aD6]at hv;omega
 rw[hj]at c4;have G9:=hh.cB;rw[qc]at G9;have OC:=hh.cK;rw[Ns]at OC;have HJ:Hid (h.jv=.slice ja h.jb.length jc):=hj;have gW:=aX hh.blk;obtain⟨k,p,a,mm⟩:=r;unfold wG;clear hh hj qc hr Ns;cases ja;all_goals
  go_enter func118,ntmps118
  go_wp2_with (first
   |(go_at_call 171;refine(show aU prog 171 #[wG ⟨k,p,a,mm⟩] _ _ from tH.o _).mono ?_;rintro e w1 ⟨v1,rfl,jJ,bM⟩
     have F1:Hid (Fr aP w w1):=(bG _).trans bM fun _ h=>h.elim
     obtain⟨g,gc,rfl,hgc⟩:=Jl jJ<|by decide
     have d4:=(F1.o.cell (p:=⟨xb,4,af⟩) gW id).trans c4
     have d66:=(F1.o.cell (p:=⟨xb,66,af⟩) gW id).trans G9
     have d67:=(F1.o.cell (p:=⟨xb,67,af⟩) gW id).trans OC
     have df:∀o,w1.frozen? ⟨xb,o,af⟩=false:=jS<|(F1.o.block xb gW id).trans HH.o.blk
     have aBm:¬gc=0:=by omega
     clear jJ bM))
  go_region
  go_wp2_with fail
  rw[<-HJ.o]
  have hA:=HH.o.after F1.o
  have fs:Fr (fun k=>k=xb) w1 (w1.setCell ⟨xb,4,af⟩ h.jv).drew:=((Fr.refl (fun k=>k=xb) w1).setCell (p:=⟨xb,4,af⟩) (.inl rfl) _).drew
  have hW:aF (w1.setCell ⟨xb,4,af⟩ h.jv).drew B xb n h:=hA.put fs (by
   show(w1.setCell ⟨xb,4,af⟩ h.jv).heap[xb]? =_;rw[jT hA.blk,HS.af2]) rfl rfl rfl rfl rfl rfl rfl rfl hA.h6
  have HW:Hid (aF (w1.setCell ⟨xb,4,af⟩ h.jv).drew B xb n h):=hW
  have FW:Hid (Fr (fun k=>k=xb) w1 (w1.setCell ⟨xb,4,af⟩ h.jv).drew):=fs
  generalize(w1.setCell ⟨xb,4,af⟩ h.jv).drew=W at HW FW⊢
  clear hW fs hA
  refine(aaN HW.o).mono ?_
  rintro e w3 ⟨rfl,h3,lZ⟩
  have H3:Hid (aF w3 B xb n h.qY):=h3
  have F3:Hid (Fr (fun k=>k=xb) W w3):=lZ
  clear h3 lZ
  go_wp2_with fail
  go_ret
  refine⟨rfl,h.jv,?_,((F1.o.mono (fun _ h=>h.elim):Fr (fun k=>k=xb\/h.jv.ownBlock=ae k) w w1).trans FW.o fun _ e=>.inl<|.inl e).trans F3.o fun _ e=>.inl<|.inl e,fun _ e=>.inl e⟩
  show aF w3 B xb n (h.mX h.jv []).qY
  rw[HS.aoG]
  exact H3.o
end
end
def Ll{c:Int}(h1: -9223372036854775808<=c)(h2:c<=9223372036854775807):eP c:=by
 simpa[eP,Lit.wf,IntKind.min,IntKind.max,IntKind.signed,IntKind.bits]using And.intro h1 h2
section
def ao8:(prog.info? 184).map (fun i=>(i.zero,i.size,i.bytes))=ae (ae<|gY #[ag ah 0,ag ah 0,ag ah 0,ag ah 0],4,32):=by kernel_rfl
variable{w:aj}{o n:Nat}{v:az}{r:Rc}
def Rq{b:Nat}(h:w.cell? ⟨b,o,af⟩=ae v):b<w.heap.size:=by
 rcases E5 b w.heap.size with h1|h1
 ·exact h1
 ·simp[World.cell?,afb h1]at h
def abf{W w3:aj}{ob:Obj}{row:Option Nat}(h:(W.drew.alloc ob).grownBy w3 row){g:Nat}(hg:g<W.heap.size)(dh:ae g≠row):w3.cell? ⟨g,o,af⟩=W.cell? ⟨g,o,af⟩:=by
 have h1:w3.heap[g]? =(W.drew.alloc ob).heap[g]? :=h.block g (by simp<;>omega) dh;have h2:(W.drew.alloc ob).heap[g]? =W.heap[g]? :=aD1 W.drew ob g hg;exact aD2<|h1.trans h2
def ao9(h:r.Small n):∃t,dJ r=UInt8.ofNat r.k.toNat::UInt8.ofNat r.p.toNat::UInt8.ofNat r.a.toNat::t:=by
 obtain⟨k0,k1,p0,p1,a0,a1,m0,m1⟩:=h;refine⟨jZ 0 1++jZ r.m.toNat 8++jZ ((qw<|ku r).2*65536+(qw<|ku r).1).toNat 4,?_⟩;unfold dJ;conv=>lhs;arg 1;unfold ku
 rw[G8 (by omega)<|by omega,G8 (by omega)<|by omega,G8 (by omega)<|by omega];simp only[AQ,nP,xH]
def apa(h:r.Small n)(hn:n<1000000000000)(rest:List UInt8):numOf (((dJ r++rest).drop 4).take 8)=r.m.toNat:=by
 have e:((dJ r++rest).drop 4).take 8=jZ r.m.toNat 8:=by
  unfold dJ ku;obtain⟨k0,k1,p0,p1,a0,a1,m0,m1⟩:=h;rw[G8 (by omega)<|by omega,G8 (by omega)<|by omega,G8 (by omega)<|by omega];simp only[nP,xH,am1,List.drop_zero,jZ];rw[show∀(a b c d e f g h:UInt8) (t:List UInt8),List.take 8 (a::b::c::d::e::f::g::h::t)=[a,b,c,d,e,f,g,h]from fun _ _ _ _ _ _ _ _ _=>rfl]
 rw[e];have:=h.m1;have:=h.m0;exact agh<|by omega
def apb(r:Rc)(rest:List UInt8):Rf (dJ r++rest)=true:=by
 have h1:(dJ r++rest).take 12=ku r:=by
  unfold dJ;rw[AQ,List.take_left'<|Oz r]
 have h2:((dJ r++rest).drop 12).take 4=jZ (nT<|ku r).toNat 4:=by
  unfold dJ;rw[AQ,List.drop_left'<|Oz r,List.take_left'<|QY _ _];rfl
 unfold Rf;rw[h1,h2];have fE:=QZ<|ku r;have UL:0<=nT (ku r):=by unfold nT;omega
 have as1:nT (ku r)<4294967296:=by unfold nT;omega
 rw[agh<|by omega];simp only[VS];omega
def Cb(L:List Rc):(L.flatMap dJ).length=16*L.length:=by
 induction L with
 |nil=>rfl
 |cons r L ih=>simp only[oO,iV,ih,BV,oq];omega
def apc{B:Nat}{L:List Rc}{tl:List UInt8}(h:w.ownsRow B 5 1 v (L.flatMap dJ++tl).length (dV<|L.flatMap dJ++tl))(ht:tl.length<16)(hs:∀r∈L,r.Small n)(hn:n<1000000000000)(hL:L.length<100000000000):
 aU prog 127 #[v] w fun e w'=>∃v',e=aT v'/\w'.ownsRow w.heap.size 184 4 v' L.length (L.flatMap Rc.cs)/\Fr aP w w':=by
 obtain⟨i0,dR,iE,gG,iU⟩:=aEd ao8;obtain⟨va,vc,hv,_⟩:=pq h;have hlen:(L.flatMap dJ++tl).length=16*L.length+tl.length:=by rw[iV,Cb]
 obtain⟨yh,aze⟩:∃yh,16*L.length+tl.length=yh:=⟨_,rfl⟩;have HS:Hid (∀r∈L,r.Small n):=hs;have o7:0<yh->∃g,va=ae ⟨g,0,af⟩/\yh<=vc/\tK w g 0 (L.flatMap dJ++tl):=fun h0=>by
  obtain⟨g,cap,hg,xn⟩:=Jl h (by omega);rw[hv]at hg;simp only[aD6]at hg;obtain⟨rfl,_,rfl⟩:=hg;rw[hv]at h;exact⟨g,rfl,by omega,tK.agl h⟩
 have HM:Hid (0<yh->∃g,va=ae ⟨g,0,af⟩/\yh<=vc/\tK w g 0 (L.flatMap dJ++tl)):=o7;rw[hlen,aze]at hv;subst hv;clear h o7 hlen hs;go_enter func127,ntmps127
 go_wp2_with fail
 go_loopw [0,3] (fun b rv w'=>∃(j:Nat) (a:Option Addr) (c:Nat),j<=L.length/\b=.slice a (yh-16*j) c/\(0<yh-16*j->∃g,a=ae ⟨g,16*j,af⟩/\g<w.heap.size/\yh-16*j<=c/\tK w' g (16*j) ((L.drop j).flatMap dJ++tl))/\w'.ownsRow w.heap.size 184 4 rv j ((L.take j).flatMap Rc.cs)/\Fr aP w w') (fun b _ _=>afL b)
 case atStart=>
  refine⟨0,va,vc,by omega,rfl,fun h0=>?_,aD9 _ _ _ _,Fr.refl _ _⟩
  obtain⟨g,h1,h2,h3⟩:=HM.o h0
  obtain⟨x,hx⟩:∃x,(L.flatMap dJ++tl)[0]? =ae x:=⟨_,eY (by rw[iV,Cb];omega)⟩
  exact⟨g,h1,Rq<|h3 0 x hx,by omega,by simpa using h3⟩
 case round=>
  obtain⟨j,a,c,hj,rfl,hB,dF,dO⟩:=hrel
  have HF:Hid (Fr aP w wr):=dO
  obtain⟨ra,rc,rfl,_⟩:=pq dF
  have HR:Hid (wr.ownsRow w.heap.size 184 4 (.slice ra j rc) j<|(L.take j).flatMap Rc.cs):=dF
  by_cases aI:j<L.length
  ·obtain⟨r,hr⟩:∃r,L[j]? =ae r:=⟨_,eY aI⟩
   have qV:=HS.o r<|gz hr
   have hd:L.drop j=r::L.drop (j+1):=by
    rw[List.drop_eq_getElem_cons aI];congr 1;rw[eY aI]at hr;exact qX hr
   obtain⟨g,rfl,hgw,hc,II⟩:=hB<|by omega
   rw[hd,oO,AQ]at II
   obtain⟨rest,Dp⟩:∃rest,(L.drop<|j+1).flatMap dJ++tl=rest:=⟨_,rfl⟩
   rw[Dp]at II
   have HBT:Hid (tK wr g (16*j)<|dJ r++rest):=II
   have Dq:(dJ r++rest).length=yh-16*j:=by
    rw[iV,BV,<-Dp,iV,Cb,List.length_drop];omega
   have UO:rest.length+16=yh-16*j:=by rw[<-Dq,iV,BV];omega
   have WA:Hid (Rf (dJ r++rest)=true):=apb r rest
   have tH:Hid (aU prog 177 #[aJ (ae ⟨g,16*j,af⟩) (yh-16*j) c] wr fun e w'=>e=aT (aB true)/\Fr aP wr w'):=by
    have:=aow II (by rw[Dq];omega) (by rw[Dq];exact hc);rw[WA.o,Dq]at this;exact this
   obtain⟨t,alv⟩:=ao9 qV
   rw[alv]at II
   have b0:=II 0 _ rfl
   rw[KW]at b0
   have b1:=II 1 _ rfl
   have b2:=II 2 _ rfl
   rw[toNat_one (by have:=qV.k0;omega) (by have:=qV.k1;omega)]at b0
   rw[toNat_one (by have:=qV.p0;omega) (by have:=qV.p1;omega)]at b1
   rw[toNat_one (by have:=qV.a0;omega) (by have:=qV.a1;omega)]at b2
   have HRN:Hid (r.m=(r.m.toNat:Int)):=by show r.m=(r.m.toNat:Int);have:=qV.m0;omega
   have abg:Hid (tK wr g (16*j+4)<|((dJ r++rest).drop 4).take 8):=HBT.o.sub 4 8
   have HNL:Hid ((((dJ r++rest).drop 4).take 8).length=8):=by show(((dJ r++rest).drop 4).take 8).length=8;simp[BV]<;>omega
   have HNV:Hid (numOf (((dJ r++rest).drop 4).take 8)=r.m.toNat):=apa qV hn rest
   have qk:IntKind.i64.wrap r.k=r.k:=wrap_i64 (by have:=qV.k0;omega) (by have:=qV.k1;omega)
   have qp:IntKind.i64.wrap r.p=r.p:=wrap_i64 (by have:=qV.p0;omega) (by have:=qV.p1;omega)
   have qa:IntKind.i64.wrap r.a=r.a:=wrap_i64 (by have:=qV.a0;omega) (by have:=qV.a1;omega)
   have qm:IntKind.i64.wrap r.m=r.m:=wrap_i64 (by have:=qV.m0;omega) (by have:=qV.m1;omega)
   have sV:Hid (∀W,Fr aP wr W->∀cc,aU prog 178 #[aJ (ae ⟨g,16*j+4,af⟩) 8 cc] W fun e w'=>e=aT (.int .u64 r.m)/\W=w'):=fun W f cc=>by
    have:=agj (w:=W) (cap:=cc) (fun q x hq=>(f.cell (p:=⟨g,16*j+4+q,af⟩) ?_ id).trans<|abg.o q x hq) (by rw[HNL.o];decide)
    ·rw[HNL.o,HNV.o,<-HRN.o]at this;exact this
    ·exact Rq<|abg.o q x hq
   have E8:Hid ((L.take<|j+1).flatMap Rc.cs=(L.take j).flatMap Rc.cs++[ag ah r.k,ag ah r.p,ag ah r.a,ag ah r.m]):=by
    show(L.take<|j+1).flatMap Rc.cs=_;rw[AP,hr,EX,EW];simp[Rc.cs]
   have xn:(16:Int)<=(c:Int):=by omega
   have aCq:(12:Int)<=(c:Int):=by omega
   have aBn:¬c=4:=by omega
   obtain⟨nn,Qu⟩:∃nn,yh-16*j=nn:=⟨_,rfl⟩
   have fF:Hid (yh-16*j=nn):=Qu
   rw[Qu]at tH hc UO⊢
   have Zm:0<nn:=by omega
   have aBo:(0:Int)<nn:=by omega
   have yj:(1:Int)<nn:=by omega
   have sS:(2:Int)<nn:=by omega
   have Zn:(16:Int)<=nn:=by omega
   clear II hB dO dF hd alv Dq abg HNL HNV WA Qu
   go_wp2_with (go_at_call 177;(with_reducible refine tH.o.mono ?_);rintro e w1 ⟨rfl,bM⟩;have F1:Hid (Fr aP wr w1):=bM;have vS:g<w1.heap.size:=fK (Rq b0) bM.size;have WB:∀o,ae (Addr.block ⟨g,o,af⟩)≠Value.ownBlock (.slice ra j rc):=fun o e=>by{have:=(HR.o.lt g e.symm).1;omega};have hgr:g<wr.heap.size:=Rq b0;have hz:w.heap.size<=w1.heap.size:=eG HF.o.size bM.size;have d0:=(bM.cell (p:=⟨g,16*j,af⟩) hgr id).trans b0;have d1:=(bM.cell (p:=⟨g,16*j+1,af⟩) hgr id).trans b1;have d2:=(bM.cell (p:=⟨g,16*j+2,af⟩) hgr id).trans b2;clear bM b0 b1 b2)
   have HQ:Hid (∀w3,(w1.drew.alloc<|aC #[ag ah r.k,ag ah r.p,ag ah r.a,ag ah r.m] 184).grownBy w3 (Value.ownBlock<|.slice ra j rc)->w3.cell? ⟨g,16*j,af⟩=ae (.int .u8 r.k)/\w3.cell? ⟨g,16*j+1,af⟩=ae (.int .u8 r.p)/\w3.cell? ⟨g,16*j+2,af⟩=ae (.int .u8 r.a)):=fun w3 hg=>
    ⟨(abf hg vS<|WB 0).trans d0,(abf hg vS<|WB 0).trans d1,(abf hg vS<|WB 0).trans d2⟩
   go_region_held3 (fun w'=>w'.cell? ⟨g,16*j,af⟩=ae (.int .u8 r.k)/\w'.cell? ⟨g,16*j+1,af⟩=ae (.int .u8 r.p)/\w'.cell? ⟨g,16*j+2,af⟩=ae (.int .u8 r.a))
    (first|with_reducible exact⟨d0,d1,d2⟩|with_reducible exact Q|go_keep)
    (first
      |(go_at_call 178;refine(sV.o w1.drew F1.o.drew _).mono ?_;rintro e w2 ⟨rfl,rfl⟩)
      |(refine aEt _ (by rfl) _ _ _ (by rfl) w.heap.size 184 i0 _ 4 32 underlying190 dR iE gG iU rfl (by omega) (.slice ra j rc) j ((L.take j).flatMap Rc.cs) (by rfl) ((F1.o.drew.alloc _).ownsRow HR.o fun _ _=>id) ⟨w1.heap.size,0,af⟩ 1 1 [ag ah r.k,ag ah r.p,ag ah r.a,ag ah r.m] (by rfl) (by rfl) (aD7 (cs:=#[ag ah r.k,ag ah r.p,ag ah r.a,ag ah r.m]) (t:=184) (fr:=(0,0))<|aDY _ _) (by simp[Value.oneCell']) (by omega) (by simp only[dU];omega) (by omega) (by simp<;>omega) (w1.heap.size+1) (by simp) ?_;intro gg cap w3 iO pX dX uk;have Q:=HQ.o w3 pX))
   go_wp2_with fail
   go_roundw
   case rel=>
    have Qu:=fF.o
    have lZ:Fr (fun x=>Value.ownBlock (.slice ra j rc)=ae x) wr w3:=((F1.o.drew.alloc _).mono (fun _ h=>h.elim):Fr (fun x=>Value.ownBlock (.slice ra j rc)=ae x) wr _).grown pX fun x ex=>.inl ex
    refine⟨j+1,_,_,by omega,by rw[show yh-16*(j+1)=nn-16 by omega],fun h0=>⟨g,?_,hgw,by omega,fun q x hq=>?_⟩,?_,HF.o.trans lZ fun x hx=>.inr (HR.o.lt x hx).1⟩
    ·rw[if_neg<|by omega]
     rfl
    ·rw[Dp]at hq
     have h1:=HBT.o (16+q) x (by rw[xC (by rw[BV];omega),BV,Nat.add_sub_cancel_left];exact hq)
     rw[show 16*(j+1)+q=16*j+(16+q)by omega]
     exact(aD2<|lZ.block g (Rq h1) fun e=>WB 0 e.symm).trans h1
    ·rw[E8.o]
     exact iO
   case measure=>simp[afL]<;>omega
  ·have HJ:Hid (j=L.length):=by show j=L.length;omega
   obtain⟨nn,Zo⟩:∃nn,yh-16*j=nn:=⟨_,rfl⟩
   have Qu:nn<16:=by omega
   rw[Zo]
   have HT:Hid (L.take j=L):=DJ<|by omega
   have tH:Hid (aU prog 177 #[.slice a nn c] wr fun e w'=>e=aT (aB false)/\Fr aP wr w'):=aov wr a Qu
   clear hB dO dF Zo aI
   go_wp2_with (go_at_call 177;(with_reducible refine tH.o.mono ?_);rintro e w1 ⟨rfl,bM⟩;have F1:Hid (Fr aP wr w1):=bM;clear bM)
   go_ret
   refine⟨_,rfl,?_,HF.o.trans F1.o fun _ h=>h.elim⟩
   have:=F1.o.ownsRow HR.o fun _ _=>id
   rw[HT.o]at this
   rw[<-HJ.o]
   exact this
end
end Go.Proofs.YtkelpcjiediamaaGreat
