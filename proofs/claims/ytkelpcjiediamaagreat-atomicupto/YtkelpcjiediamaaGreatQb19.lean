import Derived.Test.YtkelpcjiediamaaGreatQb17
import Derived.Test.YtkelpcjiediamaaGreatQb18
import Derived.Sort.OwnSortedInts
import Derived.Maps.RangeWalk
import Derived.Deep.MidRow
set_option maxRecDepth 100000
set_option maxHeartbeats 0
set_option linter.all false
namespace Go.Proofs.YtkelpcjiediamaaGreat
def aCz:=@Go.wpList_store_mid
open Go renaming Calls→aK,Program→dO,TypeId→bW,Value→aj,World→ah,maxLen→dH
open Option renaming none→af,some→ae
open Go.Proofs.Tryz
open Go.RowKit Go.Maps
section
def yO(x y:Int):Bool:=decide<|x<=y
variable{w:ah}{B:Nat}{v:aj}
def alX{T:List Int}(h:w.ownsRow B 3 1 v T.length (fK T))(hl:T.length<4611686018427387904):
 aK prog 123 #[v] w fun e w'=>e=.returned (.tuple #[])/\w'.ownsRow B 3 1 v T.length (fK<|T.mergeSort yO)/\w.grownBy w' v.ownBlock:=by
 rcases h.2 with⟨rfl,h0⟩|⟨g,cap,cur,rfl,hb,hg,h1,h2,h3,h4⟩
 ·have hT:T=[]:=YD h0;subst hT;exact(alW af 0 w).mono fun e w' ⟨h1,h2⟩=>by subst h2;exact⟨h1,by simpa using h,World.grownBy.refl _ _⟩
 ·refine(slices_Sort_int g 0 cap T w (holds_of_blockI hg<|by simpa[fK]using h4) (aS hg) hl).mono fun e w' ⟨h5,n,os,h6⟩=>?_;subst h6;exact⟨h5,ownsRow_sortedI (by simp) hb hg h1 h2 h3,grownBy_sortedI _⟩
def AX{B':Nat}{ty:bW}{wd:Nat}{n:Nat}{xs:List aj}(h:w.ownsRow B ty wd v n xs)(hB:B'<=B):w.ownsRow B' ty wd v n xs:=by
 refine⟨h.1,?_⟩;rcases h.2 with h1|⟨g,cap,cur,h1,h2,h3⟩
 ·exact .inl h1
 ·exact .inr ⟨g,cap,cur,h1,by omega,h3⟩
structure FI(nw:Int->Option (Int×Bool))(D:DataW aj)(left:Lit->Bool)(T:List Int):Prop where
 nodup:T.Nodup
 wf:∀x∈T,dQ x
 mem:∀x,dQ x->(x∈T↔Maps.has D (.int .i64 x)=true/\left (.int .i64 x)=false/\∃t,nw x=ae (t,true))
def alY(x y:Int):(Lit.int .i64 y).sameKey (.int .i64 x)=decide (y=x):=by
 by_cases e:y=x
 ·subst e;rw[WideAt.sameKey_self<|by trivial];simp
 ·have:(Lit.int .i64 y).sameKey (.int .i64 x)=false:=by
   cases h:(Lit.int .i64 y).sameKey (.int .i64 x)
   ·rfl
   ·have:=WideAt.sameKey_eq h;cases this;exact absurd rfl e
  rw[this];simp[e]
def FI.start(nw:Int->Option (Int×Bool))(D:DataW aj):FI nw D (Maps.has D) []:=
 ⟨List.nodup_nil,fun x h=>by simp at h,fun x _=>⟨fun h=>by simp at h,fun⟨h1,h2,_⟩=>by rw[h1]at h2;cases h2⟩⟩
def FI.step{nw:Int->Option (Int×Bool)}{D:DataW aj}{left:Lit->Bool}{T:List Int}(h:FI nw D left T){x t:Int}{o:Bool}(hx:dQ x)(hl:left (.int .i64 x)=true)(hh:Maps.has D (.int .i64 x)=true)(hn:nw x=ae (t,o)):
 FI nw D (fun z=>left z&& !z.sameKey (.int .i64 x)) (if o then T++[x]else T):=by
 have hxT:x∉T:=fun hm=>by
  have:=((h.mem x hx).1 hm).2.1;rw[hl]at this;cases this
 have ajF:∀y,(left (.int .i64 y)&& !(Lit.int .i64 y).sameKey (.int .i64 x))=false↔left (.int .i64 y)=false\/y=x:=fun y=>by
  rw[alY];by_cases e:y=x<;>simp[e]
 cases o
 ·refine⟨h.nodup,h.wf,fun y hy=>?_⟩;rw[show(if false then T++[x]else T)=T from rfl,h.mem y hy,ajF];constructor
  ·rintro⟨a,b,c⟩;exact⟨a,.inl b,c⟩
  ·rintro⟨a,b|b,c⟩
   ·exact⟨a,b,c⟩
   ·subst b;rw[hn]at c;obtain⟨t',c⟩:=c;cases c
 ·refine⟨?_,?_,fun y hy=>?_⟩
  ·rw[show(if true then T++[x]else T)=T++[x]from rfl,List.nodup_append];exact⟨h.nodup,by simp,fun a ha b hb=>by simp at hb;subst hb;intro e;subst e;exact hxT ha⟩
  ·intro y hy;rw[show(if true then T++[x]else T)=T++[x]from rfl]at hy;simp only[og,nY]at hy;rcases hy with hy|rfl
   ·exact h.wf y hy
   ·exact hx
  ·rw[show(if true then T++[x]else T)=T++[x]from rfl,og,nY,h.mem y hy,ajF];constructor
   ·rintro(⟨a,b,c⟩|rfl)
    ·exact⟨a,.inl b,c⟩
    ·exact⟨hh,.inr rfl,t,hn⟩
   ·rintro⟨a,b|b,c⟩
    ·exact .inl ⟨a,b,c⟩
    ·exact .inr b
def alZ{T:List Int}(h:T.Nodup):(T.mergeSort yO).Pairwise (· < ·):=by
 have h1:(T.mergeSort yO).Pairwise fun a b=>yO a b=true:=List.pairwise_mergeSort (le:=yO) (fun a b c=>by simp[yO]<;>omega) (fun a b=>by simp[yO]<;>omega) T;have h2:(T.mergeSort yO).Nodup:=(alh T yO).nodup_iff.2 h;have h3:=h1.and h2;exact h3.imp (fun⟨a,b⟩=>by simp[yO]at a;omega)
def Y8{c d:aj}(h:(DataW.held c:DataW aj)=.held d):c=d:=by cases h;rfl
def aej{lb bm n:Nat}{s:aA}(h:dK w B lb bm v n s)(hn:(n+1)*8<=140737488355328):
 aK prog 60 #[.pointer<|ae ⟨lb,0,af⟩] w fun e w'=>∃v' S,e=.returned v'/\w'.ownsRow w.heap.size 3 1 v' S.length (fK S)/\Fr aH w w'/\S.Pairwise (· < ·)/\S.length<=n/\(∀x∈S,dQ x)/\∀x,dQ x->(x∈S↔∃t,s.nw x=ae (t,true)):=by
 obtain⟨i0,dF,gG,fO,iH⟩:=aCf UK;obtain⟨D,iy,hD⟩:=h.map;have c2:w.cell? ⟨lb,2,af⟩=ae (.map<|ae bm):=by rw[aG h.blk];rfl
 have hkD:∀x,dQ x->(∀z,D.atKey (.int .i64 x) (.held z)=.held ((iW s.nw<|.int .i64 x).getD z))/\Maps.has D (.int .i64 x)=(iW s.nw<|.int .i64 x).isSome:=fun x hx=>hD (.int .i64 x) (.int .i64 x)<|aCO underlying3 hx;have HD:Hid (∀x,dQ x->(∀z,D.atKey (.int .i64 x) (.held z)=.held ((iW s.nw<|.int .i64 x).getD z))/\Maps.has D (.int .i64 x)=(iW s.nw<|.int .i64 x).isSome):=hkD;have HO:Hid (w.ownsMap prog 3 uD bm n D):=iy;have HZ:Hid (Maps.size D<=n):=iy.size_le;have HN:Hid ((n+1)*8<=140737488355328):=hn;have hbm:=iy.lt;clear h hD hkD iy hn;go_enter func60,ntmps60
 go_wp2_with (at_range;refine wpList_range_own _ rfl _ 161 rfl 3 189 zN underlying161 uD bm n D rfl HO.out ?_;intro w0 ajG Aj x8;have HR0:Hid (w0.ranges prog 3 uD bm w.heap.size n D (Maps.has D)<|Maps.size D):=ajG;have HG0:Hid (w.grownBy w0 af):=Aj;clear ajG Aj x8)
 go_frame
 go_loopw [3] (fun o w'=>∃(left:Lit->Bool) (cnt:Nat) (T:List Int),w'.ranges prog 3 uD bm w.heap.size n D left cnt/\Fr aH w w'/\w'.ownsRow (w.heap.size+1) 3 1 o T.length (fK T)/\FI s.nw D left T/\T.length+cnt<=Maps.size D/\w.heap.size+1<=w'.heap.size) (fun _ w'=>w'.rangeLeft bm w.heap.size)
 case atStart=>exact⟨_,_,[],HR0.out,(Fr.refl _ _).grown HG0.out (fun k e=>by cases e),aCb _ _ _ _,FI.start _ _,by simp,by have:=HR0.out.lt;omega⟩
 case round=>
  obtain⟨left,cnt,T,hrg,dA,iy,ael,ajI,dS⟩:=hrel
  have Ig:Hid (wr.ranges prog 3 uD bm w.heap.size n D left cnt):=hrg
  have HF:Hid (Fr aH w wr):=dA
  have HW:Hid (wr.ownsRow (w.heap.size+1) 3 1 u3 T.length<|fK T):=iy
  have HC:Hid (FI s.nw D left T):=ael
  have PT:Hid (T.length+cnt<=Maps.size D):=ajI
  have HSZ:Hid (w.heap.size+1<=wr.heap.size):=dS
  clear hrg dA iy ael ajI dS
  go_wp2_with (at_next;refine wpList_next_ranges _ rfl _ rfl 3 zN uD (Value.int .i64) id (fun key kl hk=>by obtain⟨x,hx,_⟩:=Maps.keyOf_int_inv underlying3 hk;exact⟨x,hx⟩) (fun v y hv=>⟨v,rfl⟩) bm w.heap.size n D left cnt rfl Ig.out ?_ ?_)
  ·intro XJ SV
   have HL:Hid (∀kl,left kl=false):=SV
   clear XJ SV
   have JS:Hid (T.length<4611686018427387904):=by have:=PT.out;have:=HZ.out;have:=HN.out;show T.length<4611686018427387904;omega
   go_wp2_with (go_at_call 123;refine(alX HW.out JS.out).mono ?_;rintro e w3 ⟨rfl,XK,XL⟩;have HO3:Hid (w3.ownsRow (w.heap.size+1) 3 1 u3 T.length<|fK<|T.mergeSort yO):=XK;have HG3:Hid (wr.grownBy w3 u3.ownBlock):=XL;clear XK XL)
   go_ret
   refine⟨_,T.mergeSort yO,rfl,by rw[List.length_mergeSort];exact AX HO3.out<|by omega,HF.out.grown HG3.out (fun k e=>.inr (by have:=(HW.out.lt k e).1;omega)),alZ HC.out.nodup,by rw[List.length_mergeSort];have:=PT.out;have:=HZ.out;omega,fun x hx=>HC.out.wf x<|(alh T yO).mem_iff.1 hx,fun x hx=>?_⟩
   rw[(alh T yO).mem_iff,HC.out.mem x hx]
   refine⟨fun h=>h.2.2,fun⟨t,ht⟩=>⟨?_,HL.out _,t,ht⟩⟩
   rw[(HD.out x hx).2];simp[iW,ht]
  ·intro x c kl yd yp w1 SX kY uo hv dM ajJ ajK uS G8 hen
   obtain⟨x',ex,rfl,hwx⟩:=Maps.keyOf_int_inv underlying3 kY
   cases ex
   simp only[uD,fJ,tV]at hv
   obtain⟨rfl,rfl⟩:=hv
   obtain⟨t,o,G7,rfl⟩:∃t o,s.nw x=ae (t,o)/\c=.agg #[.int .i64 t,.bool o]:=by
    have h1:=fun z=>(dM<|.held z).symm.trans<|(HD.out x hwx).1 z;cases hq:s.nw x with
    |none=>
     have a:=Y8<|h1<|.bool true;have b:=Y8<|h1<|.bool false;simp only[iW,hq,Option.map_none,Option.getD_none]at a b;rw[a]at b;cases b
    |some to=>
     have a:=Y8<|h1<|.bool true;simp only[iW,hq,FB,gQ]at a;exact⟨to.1,to.2,rfl,a⟩
   have HH:Hid (Maps.has D (.int .i64 x)=true):=by show Maps.has D (.int .i64 x)=true;rw[(HD.out x hwx).2];simp[iW,G7]
   have rU:Hid (FI s.nw D (fun z=>left z&& !z.sameKey (.int .i64 x))<|if o then T++[x]else T):=HC.out.step hwx uo HH.out G7
   have HR1:Hid (w1.ranges prog 3 uD bm w.heap.size n D (fun z=>left z&& !z.sameKey (.int .i64 x)) SX):=ajJ
   have JR:Hid (Fr aH w w1):=HF.out.grown uS (fun k e=>by cases e;exact .inr<|bV _)
   have DI:Hid (w1.ownsRow (w.heap.size+1) 3 1 u3 T.length<|fK T):=HW.out.kept uS<|.inr fun e=>row_ne_iter HW.out Ig.out e.symm
   have Y9:Hid (w.heap.size+1<=w1.heap.size):=dP HSZ.out uS.size
   have PU:Hid (SX<cnt):=ajK
   try simp only[id]at hen
   try simp only[id]
   clear kY uo dM ajJ ajK uS G8 G7
   cases o
   ·go_wp2
    go_roundw
    case rel=>exact⟨_,SX,T,HR1.out.alloc _,JR.out.alloc _,DI.out.alloc _,rU.out,by have:=PT.out;have:=PU.out;omega,by have:=Y9.out;simp<;>omega⟩
    case measure=>rw[(HR1.out.alloc _).left_eq,Ig.out.left_eq];exact PU.out
   ·have JS:Hid (T.length+1<=n):=by have:=PT.out;have:=HZ.out;have:=PU.out;show T.length+1<=n;omega
    go_wp2_with (at_builtin;refine aCv _ rfl _ _ 43 rfl (w.heap.size+1) 3 i0 _ 1 8 underlying43 dF gG fO iH rfl (by decide) _ T.length (fK T) rfl (by exact(DI.out.alloc _).alloc _) ⟨w1.heap.size+1,0,af⟩ 1 1 [.int .i64 x] rfl rfl (aB9 (cs:=#[.int .i64 x]) (t:=3) (fr:=(0,0))<|ad5 _ _ _) (by simp[Value.oneCell']) (by decide) (by have:=JS.out;have:=HN.out;simp only[dH];omega) (by have:=JS.out;have:=HN.out;omega) (by have:=Y9.out;simp<;>omega) (w1.heap.size+2) (by simp) ?_;intro gg Nh w3 o9 lV uF uT)
    have HR3:Hid (w3.ranges prog 3 uD bm w.heap.size n D (fun z=>left z&& !z.sameKey (.int .i64 x)) SX):=((HR1.out.alloc _).alloc _).kept lV (row_ne_low DI.out<|by omega)<|row_ne_low DI.out<|by omega
    have BK:Fr (fun z=>u3.ownBlock=ae z) w1 w3:=(((Fr.refl _ _).alloc _).alloc _).grown lV fun z ez=>.inl ez
    have HF3:Hid (Fr aH w w3):=JR.out.trans BK fun z hz=>.inr (by have:=(DI.out.lt z hz).1;omega)
    have HS3:Hid (w.heap.size+1<=w3.heap.size):=dP Y9.out BK.size
    have HW3:Hid (w3.ownsRow (w.heap.size+1) 3 1 (.slice (ae ⟨gg,0,af⟩) (T.length+1) Nh) (T++[x]).length<|fK<|T++[x]):=by unfold Hid;simpa[fK]using o9
    clear o9 lV uF uT BK
    go_roundw
    case rel=>exact⟨_,SX,T++[x],HR3.out,HF3.out,HW3.out,rU.out,by have:=PT.out;have:=PU.out;simp<;>omega,HS3.out⟩
    case measure=>rw[HR3.out.left_eq,Ig.out.left_eq];exact PU.out
end
def FK{w:ah}{B:Nat}{ty SY:bW}{wd:Nat}{v:aj}{n b:Nat}{xs:List aj}{cs:Array aj}{fr:Nat×Nat}(h:w.ownsRow B ty wd v n xs)(hb:w.heap[b]? =ae (.cells cs SY fr))(bM:ty≠SY):v.ownBlock≠ae b:=by
 intro hk;rcases h.2 with⟨rfl,_⟩|⟨g,cap,cur,rfl,_,hg,_⟩
 ·simp[Value.ownBlock]at hk
 ·simp[Value.ownBlock]at hk;subst hk;rw[hg]at hb;cases hb;exact bM rfl
section
variable{B wd n g:Nat}{ty:bW}
def oL{w:ah}{v:aj}{xs:List aj}(h:w.ownsRow B ty wd v n xs):∃a cap,v=.slice a n cap/\n<=maxLen:=by
 rcases h.2 with⟨rfl,rfl⟩|⟨g,cap,cur,rfl,_,_,h1,h2,_⟩
 ·exact⟨af,0,rfl,lK _⟩
 ·exact⟨_,_,rfl,dP h1 h2⟩
def CE:List aj->Nat->List aj->List aj
 |ys,_,[]=>ys
 |ys,o,a::r=>CE (ys.set o a) (o+1) r
def Ih:ah->Nat->Nat->List aj->ah
 |w,_,_,[]=>w
 |w,g,o,a::r=>Ih (w.setCell ⟨g,o,af⟩ a) g (o+1) r
def Za:∀(mc ys:List aj) (o:Nat),(CE ys o mc).length=ys.length
 |[],_,_=>rfl
 |a::r,ys,o=>by simp[CE,Za r]
def Zb:∀(mc ys:List aj) (o q:Nat),o+mc.length<=ys.length->(CE ys o mc)[q]? =if o<=q/\q<o+mc.length then mc[q-o]? else ys[q]?
 |[],ys,o,q,_=>by
  rw[if_neg (by simp only[vC];omega)];rfl
 |a::r,ys,o,q,h=>by
  simp only[ny]at h;rw[CE,Zb r (ys.set o a) (o+1) q (by simp<;>omega)];by_cases e:q=o
  ·subst e;rw[if_neg<|by omega,if_pos (by simp only[ny];omega),mD<|by omega];simp
  ·by_cases hq:o+1<=q/\q<o+1+r.length
   ·rw[if_pos hq,if_pos (by simp only[ny];omega),show q-o=(q-(o+1))+1 by omega];simp
   ·rw[if_neg hq,if_neg (by simp only[ny];omega),vz<|by omega]
def Zc{cap:Nat}:∀{mc:List aj} {w:ah} {ys:List aj} {o:Nat},w.ownsRow B ty wd (.slice (ae ⟨g,0,af⟩) n cap) n ys->o+mc.length<=n*wd->(Ih w g o mc).ownsRow B ty wd (.slice (ae ⟨g,0,af⟩) n cap) n (CE ys o mc)
 |[],_,_,_,h,_=>h
 |a::r,w,ys,o,h,hl=>by
  simp only[ny]at hl;exact Zc (mc:=r) (w:=w.setCell ⟨g,o,af⟩ a) (ys:=ys.set o a) (o:=o+1) (aeh h (j:=o) (by omega) a)<|by omega
def Fr.Ih{S:Nat->Prop}{a:ah}:∀{w:ah} (_:Fr S a w) (_:S g\/a.heap.size<=g) (o:Nat) (mc:List aj),Fr S a (Ih w g o mc)
 |_,h,_,_,[]=>h
 |_,h,hg,o,u::r=>Fr.Ih (h.setCell (p:=⟨g,o,af⟩) hg u) hg (o+1) r
end
section
def tag(w:ah)(k:Nat):Nat:=
 match w.heap[k]? with
 |some (.cells _ ty _)=>ty
 |some (.map _ _)=>1000000
 |_=>2000000
variable{w:ah}{k B n lb bm:Nat}{ty:bW}{v:aj}{s:aA}
def lD{cs:Array aj}{fr:Nat×Nat}(h:w.heap[k]? =ae (.cells cs ty fr)):tag w k=ty:=by simp[tag,h]
def ig{wd:Nat}{xs:List aj}(h:w.ownsRow B ty wd v n xs)(hk:v.ownBlock=ae k):tag w k=ty:=by
 rcases h.2 with⟨rfl,_⟩|⟨g,cap,cur,rfl,_,hg,_⟩
 ·simp[Value.ownBlock]at hk
 ·simp[Value.ownBlock]at hk;subst hk;exact lD hg
def aen{P:dO}{kt:bW}{b:Nat}{f:aj->Option aj}(h:iV w P kt b n f):tag w b=1000000:=by
 obtain⟨D,⟨es,clock,hb,_⟩,_⟩:=h;simp[tag,hb]
def AY(lb bm:Nat)(v:aj)(k:Nat):Prop:=k=lb\/k=bm\/v.ownBlock=ae k
def dK.tags(h:dK w B lb bm v n s)(hk:AY lb bm v k):tag w k=163\/tag w k=1000000\/tag w k=55:=by
 rcases hk with rfl|rfl|hk
 ·exact .inl<|lD h.blk
 ·exact .inr<|.inl<|aen h.map
 ·exact .inr<|.inr<|ig h.row hk
def dK.stay{S:Nat->Prop}{w2:ah}(h:dK w B lb bm v n s)(f:Fr S w w2)(hS:∀k,S k->AY lb bm v k->False):dK w2 B lb bm v n s:=
 f.logAt h (fun e=>hS _ e<|.inl rfl) (fun e=>hS _ e<|.inr<|.inl rfl) (fun _ hk e=>hS _ e<|.inr<|.inr hk)
end
section
def ptr(b:Nat):Value:=.pointer<|ae ⟨b,0,af⟩
abbrev zQ(w1 w':ah)(v:aj)(l:List Int):Prop:=w'.ownsRow w1.heap.size 3 1 v l.length<|fK l
section
variable{w':ah}
end
end
section
structure PS where
 e:Int
 t:Int
 s:Int
 a:Int
 b:Int
 c:Int
 d:Int
 si:Int
 wa:Int
 ga:Int
def PS.cs(p:PS):List Value:=[.int .i64 p.e,.int .i64 p.t,.int .i64 p.s,.int .i64 p.a,.int .i64 p.b,.int .i64 p.c,.int .i64 p.d,.int .i64 p.si,.int .i64 p.wa,.int .i64 p.ga]
structure Ms where
 k:Int
 q:Int
 p:Int
 t:Int
 c:Bool
def Ms.cs(r:Ms):List Value:=[.int .i64 r.k,.int .i64 r.q,.int .i64 r.p,.int .i64 r.t,.bool r.c]
structure PL where
 lb:Nat
 bm:Nat
 v:aj
 s:aA
 out:Bool
def PL.cs(p:PL):List Value:=[ptr p.lb,.bool p.out]
def oP(l:List PL):List Value:=l.flatMap PL.cs
structure HS where
 P:Int
 Q:Int
 T:Int
 K:Int
 jv:aj
 jb:List aj
 up:Bool
 ps:List PS
 br:Bool
 kp:Int
 pv:aj
 pl:List PL
 fv:aj
 fl:List Ms
def HS.cells(h:HS):List Value:=
 [.int .i64 h.P,.int .i64 h.Q,.int .i64 h.T,.int .i64 h.K,h.jv,.bool h.up]++(h.ps.flatMap PS.cs++[.bool h.br,.int .i64 h.kp,h.pv,h.fv])
def oQ:PS:=⟨0,0,0,0,0,0,0,0,0,0⟩
def vF:List PS:=[oQ,oQ,oQ,oQ,oQ,oQ]
structure ay(w:ah)(B xb n:Nat)(h:HS):Prop where
 blk:w.heap[xb]? =ae (.cells h.cells.toArray 111 (0,0))
 lL:w.ownsRow B 5 1 h.jv h.jb.length h.jb
 jD:w.ownsRow B 98 2 h.pv h.pl.length (oP h.pl)
 lY:w.ownsRow B 119 5 h.fv h.fl.length (h.fl.flatMap Ms.cs)
 dG:∀p∈h.pl,dK w B p.lb p.bm p.v n p.s
 hx:B<=xb
 hP:1<=h.P/\h.P<=6
 hQ:h.Q=h.pl.length/\1<=h.Q/\h.Q<=4
 h6:h.ps.length=6
def Ze{α:Type}{l:List α}(h:l.length=6):∃a b c d e f,l=[a,b,c,d,e,f]:=by
 match l,h with
 |[a,b,c,d,e,f],_=>exact⟨a,b,c,d,e,f,rfl⟩
def Nk(cs:Array aj)(o:Nat):List aj->Array aj
 |[]=>cs
 |v::r=>Nk (cs.setIfInBounds o v) (o+1) r
variable{b n B xb:Nat}{t:bW}{w w':ah}{h:HS}
def Ii{fr:Nat×Nat}:∀(vs:List aj) (o:Nat) {w:ah} {cs:Array aj},w.heap[b]? =ae (.cells cs t fr)->(w.setCells b o vs).heap[b]? =ae (.cells (Nk cs o vs) t fr)
 |[],_,_,_,h=>h
 |v::r,o,_,_,h=>by
  rw[World.setCells];exact Ii r (o+1)<|jQ h o v
def Fr.setCells{S:Nat->Prop}{a:ah}(hb:S b\/a.heap.size<=b):∀(vs:List aj) (o:Nat) {w:ah},Fr S a w->Fr S a (w.setCells b o vs)
 |[],_,_,h=>h
 |v::r,o,_,h=>by
  rw[World.setCells];exact Fr.setCells hb r (o+1)<|h.setCell (p:=⟨b,o,af⟩) hb v
def JU{cs:Array aj}(h:w.heap[b]? =ae (.cells cs t (0,0))){o:Nat}(hn:o+n<=cs.size):w.there b o n:=fun j hj=>by
 refine⟨?_,jP h _⟩;rw[aG h,Fh<|by omega];rfl
def al5:(prog.info? 105).map (·.size)=ae 64:=by kernel_rfl
def HS.zS(h:HS):HS:={h with up:=false,ps:=vF,br:=false,kp:=0}
def UL(jv:aj):List Value:=[jv,.bool false]++(vF.flatMap PS.cs++[.bool false,.int .i64 0])
def UM(l:List PS):(l.flatMap PS.cs).length=l.length*10:=by
 induction l with
 |nil=>rfl
 |cons a r ih=>simp[nZ,ih,PS.cs]<;>omega
def HS.size(h6:h.ps.length=6):h.cells.toArray.size=70:=by
 simp only[HS.cells,Fv,iQ,UM,h6,ny,vC]
def HS.al6(h6:h.ps.length=6):Nk h.cells.toArray 4 (UL h.jv)=h.zS.cells.toArray:=by
 obtain⟨P,Q,T,K,jv,jb,up,ps,br,kp,pv,pl,fv,fl⟩:=h;obtain⟨⟨e0,t0,s0,a0,b0,c0,d0,x0,y0,z0⟩,⟨e1,t1,s1,a1,b1,c1,d1,x1,y1,z1⟩,⟨e2,t2,s2,a2,b2,c2,d2,x2,y2,z2⟩,⟨e3,t3,s3,a3,b3,c3,d3,x3,y3,z3⟩,⟨e4,t4,s4,a4,b4,c4,d4,x4,y4,z4⟩,⟨e5,t5,s5,a5,b5,c5,d5,x5,y5,z5⟩,rfl⟩:=Ze h6;kernel_rfl
def ay.PW(hh:ay w B xb n h):h.jv.ownBlock≠ae xb:=fun e=>by
 have h1:=ig hh.lL e;rw[lD hh.blk]at h1;cases h1
def ay.Zf(hh:ay w B xb n h):h.pv.ownBlock≠ae xb:=fun e=>by
 have h1:=ig hh.jD e;rw[lD hh.blk]at h1;cases h1
def ay.Zg(hh:ay w B xb n h):h.fv.ownBlock≠ae xb:=fun e=>by
 have h1:=ig hh.lY e;rw[lD hh.blk]at h1;cases h1
def ay.JV(hh:ay w B xb n h){p:PL}(hp:p∈h.pl):¬AY p.lb p.bm p.v xb:=fun e=>by
 have h0:=lD hh.blk;rcases(hh.dG p hp).tags e with h1|h1|h1<;>rw[h0]at h1<;>cases h1
def ay.after(hh:ay w B xb n h)(f:Fr aH w w'):ay w' B xb n h:=
 ⟨(f.block xb (aS hh.blk) id).trans hh.blk,f.ownsRow hh.lL fun _ _=>id,f.ownsRow hh.jD fun _ _=>id,f.ownsRow hh.lY fun _ _=>id,fun p hp=>f.logAt (hh.dG p hp) id id fun _ _=>id,hh.hx,hh.hP,hh.hQ,hh.h6⟩
def ay.put{h':HS}(hh:ay w B xb n h)(f:Fr (fun k=>k=xb) w w')(hb:w'.heap[xb]? =ae (.cells h'.cells.toArray 111 (0,0)))(hj:h'.jv=h.jv)(XM:h'.jb=h.jb)(gZ:h'.pv=h.pv)(iF:h'.pl=h.pl)(oM:h'.fv=h.fv)(Ak:h'.fl=h.fl)(hP:h'.P=h.P)(hQ:h'.Q=h.Q)(h6:h'.ps.length=6):ay w' B xb n h':=
 ⟨hb,by rw[hj,XM];exact f.ownsRow hh.lL (fun k hk e=>hh.PW (by subst e;exact hk)),by rw[gZ,iF];exact f.ownsRow hh.jD (fun k hk e=>hh.Zf (by subst e;exact hk)),by rw[oM,Ak];exact f.ownsRow hh.lY (fun k hk e=>hh.Zg (by subst e;exact hk)),
  fun p hp=>by rw[iF]at hp;exact(hh.dG p hp).stay f (fun k e hf=>hh.JV hp (by subst e;exact hf)),hh.hx,by rw[hP];exact hh.hP,by rw[hQ,iF];exact hh.hQ,h6⟩
def Zh(hh:ay w B xb n h):
 aK prog 104 #[.pointer<|ae ⟨xb,4,af⟩] w fun e w'=>e=.returned (.tuple #[])/\ay w' B xb n h.zS/\Fr (fun k=>k=xb) w w':=by
 have HH:Hid (ay w B xb n h):=hh;have k4:w.cell? ⟨xb,4,af⟩=ae h.jv:=by rw[aG hh.blk];rfl
 obtain⟨ja,jc,hj,_⟩:=oL hh.lL;rw[hj]at k4;have HTH:Hid (w.there xb 4 64):=JU hh.blk (by rw[HS.size hh.h6];decide);have HJ:Hid (h.jv=.slice ja h.jb.length jc):=hj;have aB:=aS hh.blk;clear hh hj;go_enter func104,ntmps104
 go_wp2_with (refine aCz rfl 105 _ _ rfl xb 4 (UL<|.slice ja h.jb.length jc).toArray rfl rfl HTH.out al5 (by simp[UL,PS.cs,oQ,vF,Value.oneCell']) ?_)
 go_end0
 have hc:=HS.al6 HH.out.h6;rw[HJ.out]at hc;have fr:Fr (fun k=>k=xb) w (w.setCells xb 4<|UL<|.slice ja h.jb.length jc):=Fr.setCells (S:=fun k=>k=xb) (.inl rfl) _ _<|Fr.refl _ _;refine⟨rfl,HH.out.put fr ?_ rfl rfl rfl rfl rfl rfl rfl rfl rfl,fr⟩;rw[<-hc];exact Ii _ _ HH.out.blk
end
end Go.Proofs.YtkelpcjiediamaaGreat
