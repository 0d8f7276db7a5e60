import Derived.Test.YtkelpcjiediamaaGreatQf12
import Derived.Test.YtkelpcjiediamaaGreatQf13
import Derived.Sort.OwnSortedInts
import Derived.Maps.RangeWalk
import Derived.Deep.MidRow
import Derived.Laws.ResultCell
import Derived.Laws.BytesString
import Derived.BigRegion
set_option maxRecDepth 100000
set_option maxHeartbeats 0
set_option linter.all false
namespace Go.Proofs.YtkelpcjiediamaaGreat
def aFx:=@Go.bodyPost_ret
def aFM:=@Go.wpList_store_mid
def aGq:=@Go.World.ownsRow_lit
def aGA:=@Go.World.cell?_alloc_past
open Go renaming Calls→aW,Program→fJ,TypeId→dJ,Value→aA,World→ay,maxLen→eP,undef→ai
open Go.Ending renaming returned→aV
open Go.IntKind renaming i64→ah,wrap→eF
open Go.Obj renaming cells→aG
open Go.RowKit renaming Hid→aj,intOf→eU
open Go.Value renaming agg→iF,bool→aF,int→ag,ownBlock→bY,pointer→az,slice→aN,tuple→dU
open Go.World renaming alloc→bz,cell?→aB,ownsRow→bD,setCell→aX
open Option renaming none→af,some→ae
open Go.Proofs.Tryz
open Go.RowKit Go.Maps
section
def Ac(x y:Int):Bool:=decide<|x<=y
variable{w:ay}{B:Nat}{v:aA}
def aom{T:List Int}(h:bD w B 3 1 v T.length (gm T))(hl:T.length<4611686018427387904):
 aW prog 123 #[v] w fun e w'=>e=aV (dU #[])/\bD w' B 3 1 v T.length (gm<|T.mergeSort Ac)/\w.grownBy w' v.ownBlock:=by
 rcases h.2 with⟨rfl,h0⟩|⟨g,cap,cur,rfl,hb,hg,h1,h2,h3,h4⟩
 ·have hT:T=[]:=aaC h0;subst hT;exact(aol af 0 w).z fun e w' ⟨h1,h2⟩=>by subst h2;exact⟨h1,by simpa using h,World.grownBy.refl _ _⟩
 ·refine(slices_Sort_int g 0 cap T w (holds_of_blockI hg<|by simpa[gm]using h4) (bn hg) hl).z fun e w' ⟨h5,n,os,h6⟩=>?_;subst h6;exact⟨h5,ownsRow_sortedI (by simp) hb hg h1 h2 h3,grownBy_sortedI _⟩
def CU{B':Nat}{ty:dJ}{wd:Nat}{n:Nat}{xs:List aA}(h:bD w B ty wd v n xs)(hB:B'<=B):bD w B' ty wd v n xs:=by
 refine⟨h.1,?_⟩;rcases h.2 with h1|⟨g,cap,cur,h1,h2,h3⟩
 ·exact .inl h1
 ·exact .inr ⟨g,cap,cur,h1,by omega,h3⟩
structure Hw(nw:Int->Option (Int×Bool))(D:DataW aA)(left:Lit->Bool)(T:List Int):Prop where
 nodup:T.Nodup
 wf:∀x∈T,fO x
 mem:∀x,fO x->(x∈T↔Maps.has D (.int .i64 x)=true/\left (.int .i64 x)=false/\∃t,nw x=ae (t,true))
def aon(x y:Int):(Lit.int .i64 y).sameKey (.int .i64 x)=decide (y=x):=by
 by_cases e:y=x
 ·subst e;rw[WideAt.sameKey_self<|by trivial];simp
 ·have:(Lit.int .i64 y).sameKey (.int .i64 x)=false:=by
   cases h:(Lit.int .i64 y).sameKey (.int .i64 x)
   ·rfl
   ·have:=WideAt.sameKey_eq h;cases this;exact absurd rfl e
  rw[this];simp[e]
def Hw.start(nw:Int->Option (Int×Bool))(D:DataW aA):Hw nw D (Maps.has D) []:=
 ⟨List.nodup_nil,fun x h=>by simp at h,fun x _=>⟨fun h=>by simp at h,fun⟨h1,h2,_⟩=>by rw[h1]at h2;cases h2⟩⟩
def Hw.step{nw:Int->Option (Int×Bool)}{D:DataW aA}{left:Lit->Bool}{T:List Int}(h:Hw nw D left T){x t:Int}{o:Bool}(hx:fO x)(hl:left (.int .i64 x)=true)(hh:Maps.has D (.int .i64 x)=true)(hn:nw x=ae (t,o)):
 Hw nw D (fun z=>left z&& !z.sameKey (.int .i64 x)) (if o then T++[x]else T):=by
 have hxT:x∉T:=fun hm=>by
  have:=((h.mem x hx).1 hm).2.1;rw[hl]at this;cases this
 have al3:∀y,(left (.int .i64 y)&& !(Lit.int .i64 y).sameKey (.int .i64 x))=false↔left (.int .i64 y)=false\/y=x:=fun y=>by
  rw[aon];by_cases e:y=x<;>simp[e]
 cases o
 ·refine⟨h.nodup,h.wf,fun y hy=>?_⟩;rw[show(if false then T++[x]else T)=T from rfl,h.mem y hy,al3];constructor
  ·rintro⟨a,b,c⟩;exact⟨a,.inl b,c⟩
  ·rintro⟨a,b|b,c⟩
   ·exact⟨a,b,c⟩
   ·subst b;rw[hn]at c;obtain⟨t',c⟩:=c;cases c
 ·refine⟨?_,?_,fun y hy=>?_⟩
  ·rw[show(if true then T++[x]else T)=T++[x]from rfl,List.nodup_append];exact⟨h.nodup,by simp,fun a ha b hb=>by simp at hb;subst hb;intro e;subst e;exact hxT ha⟩
  ·intro y hy;rw[show(if true then T++[x]else T)=T++[x]from rfl]at hy;simp only[oN,oM]at hy;rcases hy with hy|rfl
   ·exact h.wf y hy
   ·exact hx
  ·rw[show(if true then T++[x]else T)=T++[x]from rfl,oN,oM,h.mem y hy,al3];constructor
   ·rintro(⟨a,b,c⟩|rfl)
    ·exact⟨a,.inl b,c⟩
    ·exact⟨hh,.inr rfl,t,hn⟩
   ·rintro⟨a,b|b,c⟩
    ·exact .inl ⟨a,b,c⟩
    ·exact .inr b
def aoo{T:List Int}(h:T.Nodup):(T.mergeSort Ac).Pairwise (· < ·):=by
 have h1:(T.mergeSort Ac).Pairwise fun a b=>Ac a b=true:=List.pairwise_mergeSort (le:=Ac) (fun a b c=>by simp[Ac]<;>omega) (fun a b=>by simp[Ac]<;>omega) T;have h2:(T.mergeSort Ac).Nodup:=(anK T Ac).nodup_iff.2 h;have h3:=h1.and h2;exact h3.imp (fun⟨a,b⟩=>by simp[Ac]at a;omega)
def aa2{c d:aA}(h:(DataW.held c:DataW aA)=.held d):c=d:=by cases h;rfl
def agq{lb bm n:Nat}{s:aJ}(h:fA w B lb bm v n s)(hn:(n+1)*8<=140737488355328):
 aW prog 60 #[az<|ae ⟨lb,0,af⟩] w fun e w'=>∃v' S,e=aV v'/\bD w' w.heap.size 3 1 v' S.length (gm S)/\Fr aS w w'/\S.Pairwise (· < ·)/\S.length<=n/\(∀x∈S,fO x)/\∀x,fO x->(x∈S↔∃t,s.nw x=ae (t,true)):=by
 obtain⟨i0,ed,iI,ig,jg⟩:=aFq RV;obtain⟨D,jf,hD⟩:=h.map;have c2:aB w ⟨lb,2,af⟩=ae (.map<|ae bm):=by rw[aQ h.blk];rfl
 have hkD:∀x,fO x->(∀z,D.atKey (.int .i64 x) (.held z)=.held ((jH s.nw<|.int .i64 x).getD z))/\Maps.has D (.int .i64 x)=(jH s.nw<|.int .i64 x).isSome:=fun x hx=>hD (.int .i64 x) (.int .i64 x)<|aF2 underlying3 hx;have HD:aj (∀x,fO x->(∀z,D.atKey (.int .i64 x) (.held z)=.held ((jH s.nw<|.int .i64 x).getD z))/\Maps.has D (.int .i64 x)=(jH s.nw<|.int .i64 x).isSome):=hkD;have HO:aj (w.ownsMap prog 3 wz bm n D):=jf;have HZ:aj (Maps.size D<=n):=jf.size_le;have HN:aj ((n+1)*8<=140737488355328):=hn;have hbm:=jf.lt;clear h hD hkD jf hn;go_enter func60,ntmps60
 go_wp2_with (at_range;refine wpList_range_own _ rfl _ 161 rfl 3 189 Bl underlying161 wz bm n D rfl HO.o ?_;intro w0 al4 BV zG;have HR0:aj (w0.ranges prog 3 wz bm w.heap.size n D (Maps.has D)<|Maps.size D):=al4;have HG0:aj (w.grownBy w0 af):=BV;clear al4 BV zG)
 go_frame
 go_loopw [3] (fun o w'=>∃(left:Lit->Bool) (cnt:Nat) (T:List Int),w'.ranges prog 3 wz bm w.heap.size n D left cnt/\Fr aS w w'/\bD w' (w.heap.size+1) 3 1 o T.length (gm T)/\Hw s.nw D left T/\T.length+cnt<=Maps.size D/\w.heap.size+1<=w'.heap.size) (fun _ w'=>w'.rangeLeft bm w.heap.size)
 case atStart=>exact⟨_,_,[],HR0.o,dR.grown HG0.o (fun k e=>by cases e),aFm _ _ _ _,Hw.start _ _,by simp,by have:=HR0.o.lt;omega⟩
 case round=>
  obtain⟨left,cnt,T,hrg,dP,jf,ags,Vq,fP⟩:=hrel
  have Jy:aj (wr.ranges prog 3 wz bm w.heap.size n D left cnt):=hrg
  have HF:aj (Fr aS w wr):=dP
  have HW:aj (bD wr (w.heap.size+1) 3 1 u3 T.length<|gm T):=jf
  have HC:aj (Hw s.nw D left T):=ags
  have CV:aj (T.length+cnt<=Maps.size D):=Vq
  have HSZ:aj (w.heap.size+1<=wr.heap.size):=fP
  clear hrg dP jf ags Vq fP
  go_wp2_with (at_next;refine wpList_next_ranges _ rfl _ rfl 3 Bl wz (Value.int .i64) id (fun key kl hk=>by obtain⟨x,hx,_⟩:=Maps.keyOf_int_inv underlying3 hk;exact⟨x,hx⟩) (fun v y hv=>⟨v,rfl⟩) bm w.heap.size n D left cnt rfl Jy.o ?_ ?_)
  ·intro ZJ Vr
   have HL:aj (∀kl,left kl=false):=Vr
   clear ZJ Vr
   have LP:aj (T.length<4611686018427387904):=by have:=CV.o;have:=HZ.o;have:=HN.o;show T.length<4611686018427387904;omega
   go_wp2_with (go_at_call 123;refine(aom HW.o LP.o).z ?_;rintro e w3 ⟨rfl,ZK,ZL⟩;have HO3:aj (bD w3 (w.heap.size+1) 3 1 u3 T.length<|gm<|T.mergeSort Ac):=ZK;have HG3:aj (wr.grownBy w3 u3.ownBlock):=ZL;clear ZK ZL)
   go_ret
   refine⟨_,T.mergeSort Ac,rfl,by rw[List.length_mergeSort];exact CU HO3.o<|by omega,HF.o.grown HG3.o (fun k e=>.inr (by have:=(HW.o.lt k e).1;omega)),aoo HC.o.nodup,by rw[List.length_mergeSort];have:=CV.o;have:=HZ.o;omega,fun x hx=>HC.o.wf x<|(anK T Ac).mem_iff.1 hx,fun x hx=>?_⟩
   rw[(anK T Ac).mem_iff,HC.o.mem x hx]
   refine⟨fun h=>h.2.2,fun⟨t,ht⟩=>⟨?_,HL.o _,t,ht⟩⟩
   rw[(HD.o x hx).2];simp[jH,ht]
  ·intro x c kl yd yp w1 Vs mG vO hv fC al6 ZM wR Jb hen
   obtain⟨x',ex,rfl,hwx⟩:=Maps.keyOf_int_inv underlying3 mG
   cases ex
   simp only[wz,gU,uu]at hv
   obtain⟨rfl,rfl⟩:=hv
   obtain⟨t,o,Ja,rfl⟩:∃t o,s.nw x=ae (t,o)/\c=iF #[ag ah t,.bool o]:=by
    have h1:=fun z=>(fC<|.held z).s.t<|(HD.o x hwx).1 z;cases hq:s.nw x with
    |none=>
     have a:=aa2<|h1<|.bool true;have b:=aa2<|h1<|.bool false;simp only[jH,hq,Option.map_none,Option.getD_none]at a b;rw[a]at b;cases b
    |some to=>
     have a:=aa2<|h1<|.bool true;simp only[jH,hq,Ho,ik]at a;exact⟨to.1,to.2,rfl,a⟩
   have HH:aj (Maps.has D (.int .i64 x)=true):=by show Maps.has D (.int .i64 x)=true;rw[(HD.o x hwx).2];simp[jH,Ja]
   have uy:aj (Hw s.nw D (fun z=>left z&& !z.sameKey (.int .i64 x))<|if o then T++[x]else T):=HC.o.step hwx vO HH.o Ja
   have HR1:aj (w1.ranges prog 3 wz bm w.heap.size n D (fun z=>left z&& !z.sameKey (.int .i64 x)) Vs):=al6
   have LM:aj (Fr aS w w1):=HF.o.grown wR (fun k e=>by cases e;exact .inr<|dI _)
   have EU:aj (bD w1 (w.heap.size+1) 3 1 u3 T.length<|gm T):=HW.o.kept wR<|.inr fun e=>row_ne_iter HW.o Jy.o e.s
   have HS1:aj (w.heap.size+1<=w1.heap.size):=fG HSZ.o wR.size
   have RX:aj (Vs<cnt):=ZM
   try simp only[id]at hen
   try simp only[id]
   clear mG vO fC al6 ZM wR Jb Ja
   cases o
   ·go_wp2
    go_roundw
    case rel=>exact⟨_,Vs,T,HR1.o.alloc _,LM.o.alloc _,EU.o.alloc _,uy.o,by have:=CV.o;have:=RX.o;omega,by have:=HS1.o;simp<;>omega⟩
    case measure=>rw[(HR1.o.alloc _).left_eq,Jy.o.left_eq];exact RX.o
   ·have LP:aj (T.length+1<=n):=by have:=CV.o;have:=HZ.o;have:=RX.o;show T.length+1<=n;omega
    go_wp2_with (at_builtin;refine aFE _ rfl _ _ 43 rfl (w.heap.size+1) 3 i0 _ 1 8 underlying43 ed iI ig jg rfl (by decide) _ T.length (gm T) rfl (by exact(EU.o.alloc _).alloc _) ⟨w1.heap.size+1,0,af⟩ 1 1 [.int .i64 x] rfl rfl (aFk (cs:=#[ag ah x]) (t:=3) (fr:=(0,0))<|af9 _ _ _) (by simp[Value.oneCell']) (by decide) (by have:=LP.o;have:=HN.o;simp only[eP];omega) (by have:=LP.o;have:=HN.o;omega) (by have:=HS1.o;simp<;>omega) (w1.heap.size+2) (by simp) ?_;intro gg FC w3 o8 lX tH uQ)
    have HR3:aj (w3.ranges prog 3 wz bm w.heap.size n D (fun z=>left z&& !z.sameKey (.int .i64 x)) Vs):=((HR1.o.alloc _).alloc _).kept lX (row_ne_low EU.o<|by omega)<|row_ne_low EU.o<|by omega
    have DF:Fr (fun z=>bY u3=ae z) w1 w3:=((dR.alloc _).alloc _).grown lX fun z ez=>.inl ez
    have HF3:aj (Fr aS w w3):=LM.o.t DF fun z hz=>.inr (by have:=(EU.o.lt z hz).1;omega)
    have HS3:aj (w.heap.size+1<=w3.heap.size):=fG HS1.o DF.size
    have HW3:aj (bD w3 (w.heap.size+1) 3 1 (aN (ae ⟨gg,0,af⟩) (T.length+1) FC) (T++[x]).length<|gm<|T++[x]):=by unfold aj;simpa[gm]using o8
    clear o8 lX tH uQ DF
    go_roundw
    case rel=>exact⟨_,Vs,T++[x],HR3.o,HF3.o,HW3.o,uy.o,by have:=CV.o;have:=RX.o;simp<;>omega,HS3.o⟩
    case measure=>rw[HR3.o.left_eq,Jy.o.left_eq];exact RX.o
end
def Hy{w:ay}{B:Nat}{ty Vt:dJ}{wd:Nat}{v:aA}{n b:Nat}{xs:List aA}{cs:Array aA}{fr:Nat×Nat}(h:bD w B ty wd v n xs)(hb:w.heap[b]? =ae (.cells cs Vt fr))(dD:ty≠Vt):bY v≠ae b:=by
 intro hk;rcases h.2 with⟨rfl,_⟩|⟨g,cap,cur,rfl,_,hg,_⟩
 ·simp[Value.ownBlock]at hk
 ·simp[Value.ownBlock]at hk;subst hk;rw[hg]at hb;cases hb;exact dD rfl
section
variable{B wd n g:Nat}{ty:dJ}
def oP{w:ay}{v:aA}{xs:List aA}(h:bD w B ty wd v n xs):∃a cap,v=.slice a n cap/\n<=maxLen:=by
 rcases h.2 with⟨rfl,rfl⟩|⟨g,cap,cur,rfl,_,_,h1,h2,_⟩
 ·exact⟨af,0,rfl,kH _⟩
 ·exact⟨_,_,rfl,fG h1 h2⟩
def Eb:List aA->Nat->List aA->List aA
 |ys,_,[]=>ys
 |ys,o,a::r=>Eb (ys.set o a) (o+1) r
def Jz:ay->Nat->Nat->List aA->ay
 |w,_,_,[]=>w
 |w,g,o,a::r=>Jz (aX w ⟨g,o,af⟩ a) g (o+1) r
def aa5:∀(mc ys:List aA) (o:Nat),(Eb ys o mc).length=ys.length
 |[],_,_=>rfl
 |a::r,ys,o=>by simp[Eb,aa5 r]
def aa6:∀(mc ys:List aA) (o q:Nat),o+mc.length<=ys.length->(Eb ys o mc)[q]? =if o<=q/\q<o+mc.length then mc[q-o]? else ys[q]?
 |[],ys,o,q,_=>by
  rw[if_neg (by simp only[wu];omega)];rfl
 |a::r,ys,o,q,h=>by
  simp only[oH]at h;rw[Eb,aa6 r (ys.set o a) (o+1) q (by simp<;>omega)];by_cases e:q=o
  ·subst e;rw[if_neg<|by omega,if_pos (by simp only[oH];omega),nJ<|by omega];simp
  ·by_cases hq:o+1<=q/\q<o+1+r.length
   ·rw[if_pos hq,if_pos (by simp only[oH];omega),show q-o=(q-(o+1))+1 by omega];simp
   ·rw[if_neg hq,if_neg (by simp only[oH];omega),vZ<|by omega]
def aa7{cap:Nat}:∀{mc:List aA} {w:ay} {ys:List aA} {o:Nat},bD w B ty wd (aN (ae ⟨g,0,af⟩) n cap) n ys->o+mc.length<=n*wd->(Jz w g o mc).ownsRow B ty wd (aN (ae ⟨g,0,af⟩) n cap) n (Eb ys o mc)
 |[],_,_,_,h,_=>h
 |a::r,w,ys,o,h,hl=>by
  simp only[oH]at hl;exact aa7 (mc:=r) (w:=aX w ⟨g,o,af⟩ a) (ys:=ys.set o a) (o:=o+1) (agn h (j:=o) (by omega) a)<|by omega
def Fr.Jz{S:Nat->Prop}{a:ay}:∀{w:ay} (_:Fr S a w) (_:S g\/a.heap.size<=g) (o:Nat) (mc:List aA),Fr S a (Jz w g o mc)
 |_,h,_,_,[]=>h
 |_,h,hg,o,u::r=>Fr.Jz (h.setCell (p:=⟨g,o,af⟩) hg u) hg (o+1) r
end
section
def tag(w:ay)(k:Nat):Nat:=
 match w.heap[k]? with
 |some (.cells _ ty _)=>ty
 |some (.map _ _)=>1000000
 |_=>2000000
variable{w:ay}{k B n lb bm:Nat}{ty:dJ}{v:aA}{s:aJ}
def mO{cs:Array aA}{fr:Nat×Nat}(h:w.heap[k]? =ae (.cells cs ty fr)):tag w k=ty:=by simp[tag,h]
def iY{wd:Nat}{xs:List aA}(h:bD w B ty wd v n xs)(hk:bY v=ae k):tag w k=ty:=by
 rcases h.2 with⟨rfl,_⟩|⟨g,cap,cur,rfl,_,hg,_⟩
 ·simp[Value.ownBlock]at hk
 ·simp[Value.ownBlock]at hk;subst hk;exact mO hg
def agu{P:fJ}{kt:dJ}{b:Nat}{f:aA->Option aA}(h:jG w P kt b n f):tag w b=1000000:=by
 obtain⟨D,⟨es,clock,hb,_⟩,_⟩:=h;simp[tag,hb]
def CW(lb bm:Nat)(v:aA)(k:Nat):Prop:=k=lb\/k=bm\/bY v=ae k
def fA.tags(h:fA w B lb bm v n s)(hk:CW lb bm v k):tag w k=163\/tag w k=1000000\/tag w k=55:=by
 rcases hk with rfl|rfl|hk
 ·exact .inl<|mO h.blk
 ·exact .inr<|.inl<|agu h.map
 ·exact .inr<|.inr<|iY h.row hk
def fA.stay{S:Nat->Prop}{w2:ay}(h:fA w B lb bm v n s)(f:Fr S w w2)(hS:∀k,S k->CW lb bm v k->False):fA w2 B lb bm v n s:=
 f.logAt h (fun e=>hS _ e<|.inl rfl) (fun e=>hS _ e<|.inr<|.inl rfl) (fun _ hk e=>hS _ e<|.inr<|.inr hk)
end
section
def ptr(b:Nat):Value:=az<|ae ⟨b,0,af⟩
abbrev Bq(w1 w':ay)(v:aA)(l:List Int):Prop:=bD w' w1.heap.size 3 1 v l.length<|gm l
variable{w':ay}
end
section
structure PS where
 e:Int
 t:Int
 s:Int
 a:Int
 b:Int
 c:Int
 d:Int
 si:Int
 wa:Int
 ga:Int
def PS.cs(p:PS):List Value:=[ag ah p.e,ag ah p.t,ag ah p.s,ag ah p.a,ag ah p.b,ag ah p.c,ag ah p.d,ag ah p.si,ag ah p.wa,ag ah p.ga]
structure Ms where
 k:Int
 q:Int
 p:Int
 t:Int
 c:Bool
def Ms.cs(r:Ms):List Value:=[ag ah r.k,ag ah r.q,ag ah r.p,ag ah r.t,aF r.c]
structure PL where
 lb:Nat
 bm:Nat
 v:aA
 s:aJ
 out:Bool
def PL.cs(p:PL):List Value:=[ptr p.lb,aF p.out]
def qj(l:List PL):List Value:=l.flatMap PL.cs
structure HS where
 P:Int
 Q:Int
 T:Int
 K:Int
 jv:aA
 jb:List aA
 up:Bool
 ps:List PS
 br:Bool
 kp:Int
 pv:aA
 pl:List PL
 fv:aA
 fl:List Ms
def HS.cells(h:HS):List Value:=
 [ag ah h.P,ag ah h.Q,ag ah h.T,ag ah h.K,h.jv,aF h.up]++(h.ps.flatMap PS.cs++[aF h.br,ag ah h.kp,h.pv,h.fv])
def ql:PS:=⟨0,0,0,0,0,0,0,0,0,0⟩
def xm:List PS:=[ql,ql,ql,ql,ql,ql]
structure aH(w:ay)(B xb n:Nat)(h:HS):Prop where
 blk:w.heap[xb]? =ae (.cells h.cells.toArray 111 (0,0))
 mg:bD w B 5 1 h.jv h.jb.length h.jb
 ku:bD w B 98 2 h.pv h.pl.length (qj h.pl)
 nM:bD w B 119 5 h.fv h.fl.length (h.fl.flatMap Ms.cs)
 dZ:∀p∈h.pl,fA w B p.lb p.bm p.v n p.s
 hx:B<=xb
 hP:1<=h.P/\h.P<=6
 hQ:h.Q=h.pl.length/\1<=h.Q/\h.Q<=4
 h6:h.ps.length=6
def six{α:Type}{l:List α}(h:l.length=6):∃a b c d e f,l=[a,b,c,d,e,f]:=by
 match l,h with
 |[a,b,c,d,e,f],_=>exact⟨a,b,c,d,e,f,rfl⟩
def O0(cs:Array aA)(o:Nat):List aA->Array aA
 |[]=>cs
 |v::r=>O0 (cs.setIfInBounds o v) (o+1) r
variable{b n B xb:Nat}{t:dJ}{w w':ay}{h:HS}
def JA{fr:Nat×Nat}:∀(vs:List aA) (o:Nat) {w:ay} {cs:Array aA},w.heap[b]? =ae (.cells cs t fr)->(w.setCells b o vs).heap[b]? =ae (.cells (O0 cs o vs) t fr)
 |[],_,_,_,h=>h
 |v::r,o,_,_,h=>by
  rw[World.setCells];exact JA r (o+1)<|kU h o v
def Fr.setCells{S:Nat->Prop}{a:ay}(hb:S b\/a.heap.size<=b):∀(vs:List aA) (o:Nat) {w:ay},Fr S a w->Fr S a (w.setCells b o vs)
 |[],_,_,h=>h
 |v::r,o,_,h=>by
  rw[World.setCells];exact Fr.setCells hb r (o+1)<|h.setCell (p:=⟨b,o,af⟩) hb v
def LQ{cs:Array aA}(h:w.heap[b]? =ae (.cells cs t (0,0))){o:Nat}(hn:o+n<=cs.size):w.there b o n:=fun j hj=>by
 refine⟨?_,kK h _⟩;rw[aQ h,Hf<|by omega];rfl
def aot:(prog.info? 105).map (·.size)=ae 64:=by kernel_rfl
def HS.yx(h:HS):HS:={h with up:=false,ps:=xm,br:=false,kp:=0}
def WV(jv:aA):List Value:=[jv,aF false]++(xm.flatMap PS.cs++[aF false,ag ah 0])
def WW(l:List PS):(l.flatMap PS.cs).length=l.length*10:=by
 induction l with
 |nil=>rfl
 |cons a r ih=>simp[pF,ih,PS.cs]<;>omega
def HS.size(h6:h.ps.length=6):h.cells.toArray.size=70:=by
 simp only[HS.cells,Fv,iW,WW,h6,oH,wu]
def HS.aou(h6:h.ps.length=6):O0 h.cells.toArray 4 (WV h.jv)=h.yx.cells.toArray:=by
 obtain⟨P,Q,T,K,jv,jb,up,ps,br,kp,pv,pl,fv,fl⟩:=h;obtain⟨⟨e0,t0,s0,a0,b0,c0,d0,x0,y0,z0⟩,⟨e1,t1,s1,a1,b1,c1,d1,x1,y1,z1⟩,⟨e2,t2,s2,a2,b2,c2,d2,x2,y2,z2⟩,⟨e3,t3,s3,a3,b3,c3,d3,x3,y3,z3⟩,⟨e4,t4,s4,a4,b4,c4,d4,x4,y4,z4⟩,⟨e5,t5,s5,a5,b5,c5,d5,x5,y5,z5⟩,rfl⟩:=six h6;kernel_rfl
def aH.RY(hh:aH w B xb n h):h.jv.ownBlock≠ae xb:=fun e=>by
 have h1:=iY hh.mg e;rw[mO hh.blk]at h1;cases h1
def aH.aba(hh:aH w B xb n h):h.pv.ownBlock≠ae xb:=fun e=>by
 have h1:=iY hh.ku e;rw[mO hh.blk]at h1;cases h1
def aH.abb(hh:aH w B xb n h):h.fv.ownBlock≠ae xb:=fun e=>by
 have h1:=iY hh.nM e;rw[mO hh.blk]at h1;cases h1
def aH.LU(hh:aH w B xb n h){p:PL}(hp:p∈h.pl):¬CW p.lb p.bm p.v xb:=fun e=>by
 have h0:=mO hh.blk;rcases(hh.dZ p hp).tags e with h1|h1|h1<;>rw[h0]at h1<;>cases h1
def aH.a(hh:aH w B xb n h)(f:Fr aS w w'):aH w' B xb n h:=
 ⟨(f.block xb (bn hh.blk) id).t hh.blk,f.ownsRow hh.mg fun _ _=>id,f.ownsRow hh.ku fun _ _=>id,f.ownsRow hh.nM fun _ _=>id,fun p hp=>f.logAt (hh.dZ p hp) id id fun _ _=>id,hh.hx,hh.hP,hh.hQ,hh.h6⟩
def aH.put{h':HS}(hh:aH w B xb n h)(f:Fr (fun k=>k=xb) w w')(hb:w'.heap[xb]? =ae (.cells h'.cells.toArray 111 (0,0)))(hj:h'.jv=h.jv)(ZN:h'.jb=h.jb)(iV:h'.pv=h.pv)(iT:h'.pl=h.pl)(qg:h'.fv=h.fv)(BZ:h'.fl=h.fl)(hP:h'.P=h.P)(hQ:h'.Q=h.Q)(h6:h'.ps.length=6):aH w' B xb n h':=
 ⟨hb,by rw[hj,ZN];exact f.ownsRow hh.mg (fun k hk e=>hh.RY (by subst e;exact hk)),by rw[iV,iT];exact f.ownsRow hh.ku (fun k hk e=>hh.aba (by subst e;exact hk)),by rw[qg,BZ];exact f.ownsRow hh.nM (fun k hk e=>hh.abb (by subst e;exact hk)),
  fun p hp=>by rw[iT]at hp;exact(hh.dZ p hp).stay f (fun k e hf=>hh.LU hp (by subst e;exact hf)),hh.hx,by rw[hP];exact hh.hP,by rw[hQ,iT];exact hh.hQ,h6⟩
def abd(hh:aH w B xb n h):
 aW prog 104 #[az<|ae ⟨xb,4,af⟩] w fun e w'=>e=aV (dU #[])/\aH w' B xb n h.yx/\Fr (fun k=>k=xb) w w':=by
 have HH:aj (aH w B xb n h):=hh;have k4:aB w ⟨xb,4,af⟩=ae h.jv:=by rw[aQ hh.blk];rfl
 obtain⟨ja,jc,hj,_⟩:=oP hh.mg;rw[hj]at k4;have HTH:aj (w.there xb 4 64):=LQ hh.blk (by rw[HS.size hh.h6];decide);have HJ:aj (h.jv=.slice ja h.jb.length jc):=hj;have aK:=bn hh.blk;clear hh hj;go_enter func104,ntmps104
 go_wp2_with (refine aFM rfl 105 _ _ rfl xb 4 (WV<|.slice ja h.jb.length jc).toArray rfl rfl HTH.o aot (by simp[WV,PS.cs,ql,xm,Value.oneCell']) ?_)
 go_end0
 have hc:=HS.aou HH.o.h6;rw[HJ.o]at hc;have fr:Fr (fun k=>k=xb) w (w.setCells xb 4<|WV<|.slice ja h.jb.length jc):=Fr.setCells (S:=fun k=>k=xb) (.inl rfl) _ _ dR;refine⟨rfl,HH.o.put fr ?_ rfl rfl rfl rfl rfl rfl rfl rfl rfl,fr⟩;rw[<-hc];exact JA _ _ HH.o.blk
end
section
variable{w:ay}{B xb n:Nat}{h:HS}
def aH.cP(hh:aH w B xb n h):aB w ⟨xb,0,af⟩=ae (ag ah h.P):=by rw[aQ hh.blk];rfl
def aH.cJ(hh:aH w B xb n h):aB w ⟨xb,4,af⟩=ae h.jv:=by rw[aQ hh.blk];rfl
def aH.cU(hh:aH w B xb n h):aB w ⟨xb,5,af⟩=ae (aF h.up):=by rw[aQ hh.blk];rfl
def HS.c4{h:HS}(h6:h.ps.length=6):h.cells.toArray[66]? =ae (aF h.br)/\h.cells.toArray[67]? =ae (ag ah h.kp)/\h.cells.toArray[68]? =ae h.pv/\h.cells.toArray[69]? =ae h.fv:=by
 obtain⟨P,Q,T,K,jv,jb,up,ps,br,kp,pv,pl,fv,fl⟩:=h;obtain⟨p0,p1,p2,p3,p4,p5,rfl⟩:=six h6;exact⟨rfl,rfl,rfl,rfl⟩
def aH.cB(hh:aH w B xb n h):aB w ⟨xb,66,af⟩=ae (aF h.br):=by rw[aQ hh.blk];exact(HS.c4 hh.h6).1
def aH.cK(hh:aH w B xb n h):aB w ⟨xb,67,af⟩=ae (ag ah h.kp):=by rw[aQ hh.blk];exact(HS.c4 hh.h6).2.1
def aH.cV(hh:aH w B xb n h):aB w ⟨xb,68,af⟩=ae h.pv:=by rw[aQ hh.blk];exact(HS.c4 hh.h6).2.2.1
def aH.cF(hh:aH w B xb n h):aB w ⟨xb,69,af⟩=ae h.fv:=by rw[aQ hh.blk];exact(HS.c4 hh.h6).2.2.2
def abe{m:Int}(h:¬0<=m):decide (0<=m)=false:=qZ h
def Bv(hh:aH w B xb n h)(m:Int):
 aW prog 64 #[az<|ae ⟨xb,0,af⟩,ag ah m] w fun e w'=>e=aV (.bool<|decide<|0<=m/\m<h.P)/\w=w':=by
 have c0:=hh.cP;clear hh;by_cases h1:0<=m
 ·by_cases h2:m<h.P
  ·go_enter func64,ntmps64
   go_wp2
   go_ret;exact⟨by simp[h1,h2],rfl⟩
  ·go_enter func64,ntmps64
   go_wp2
   go_ret;exact⟨by simp[h2],rfl⟩
 ·go_enter func64,ntmps64
  go_wp2
  go_ret;exact⟨by rw[abe<|by omega]<;>rfl,rfl⟩
def LV(hh:aH w B xb n h)(m:Int):
 aW prog 50 #[az<|ae ⟨xb,0,af⟩,ag ah m] w fun e w'=>e=aV (.bool<|decide<|0<=m/\m<h.pl.length)/\w=w':=by
 have c0:=hh.cV;obtain⟨pa,pc,hp,_⟩:=oP hh.ku;rw[hp]at c0;clear hh;by_cases h1:0<=m
 ·by_cases h2:m<h.pl.length
  ·go_enter func50,ntmps50
   go_wp2
   go_ret;exact⟨by simp[h1,h2],rfl⟩
  ·go_enter func50,ntmps50
   go_wp2
   go_ret;exact⟨by simp[h2],rfl⟩
 ·go_enter func50,ntmps50
  go_wp2
  go_ret;exact⟨by rw[abe<|by omega]<;>rfl,rfl⟩
def PS.bG(p:PS):List Int:=[p.a,p.b,p.c,p.d]
def bZ(ts:List Int)(l:Int)(k:Nat):List Int:=((List.range k).filter fun i=>decide<|l<=ts.getD i 0).map Int.ofNat
def aow(ts:List Int)(l:Int)(k:Nat):bZ ts l (k+1)=bZ ts l k++(if l<=ts.getD k 0 then[(k:Int)]else[]):=by
 unfold bZ;rw[aaK,tu,OO];congr 1;by_cases hl:l<=ts.getD k 0
 ·rw[if_pos hl,afK<|by simpa using hl];rfl
 ·rw[if_neg hl,WJ<|by simpa using hl];rfl
def abf(ts:List Int)(l:Int)(k:Nat):(bZ ts l k).length<=k:=by
 unfold bZ;rw[Fz];exact fG (D8 _ _)<|by simp
def aox(w:ay)(a b c d:Int):(Instr.index 100 (iF #[ag ah a,ag ah b,ag ah c,ag ah d])<|ag ah 0).run prog w=.ok (ag ah a) w:=by kernel_rfl
def aoy(w:ay)(a b c d:Int):(Instr.index 100 (iF #[ag ah a,ag ah b,ag ah c,ag ah d])<|ag ah 1).run prog w=.ok (ag ah b) w:=by kernel_rfl
def aoz(w:ay)(a b c d:Int):(Instr.index 100 (iF #[ag ah a,ag ah b,ag ah c,ag ah d])<|ag ah 2).run prog w=.ok (ag ah c) w:=by kernel_rfl
def aoA(w:ay)(a b c d:Int):(Instr.index 100 (iF #[ag ah a,ag ah b,ag ah c,ag ah d])<|ag ah 3).run prog w=.ok (ag ah d) w:=by kernel_rfl
def aoB(w:ay)(p:PS){k:Nat}(hk:k<4):(Instr.index 100 (iF #[ag ah p.a,ag ah p.b,ag ah p.c,ag ah p.d])<|ag ah k).run prog w=.ok (.int .i64<|p.bG.getD k 0) w:=by
 match k,hk with
 |0,_=>exact aox w _ _ _ _
 |1,_=>exact aoy w _ _ _ _
 |2,_=>exact aoz w _ _ _ _
 |3,_=>exact aoA w _ _ _ _
def LW{b o:Nat}{p:PS}(hr:∀j v,p.cs[j]? =ae v->aB w ⟨b,o+j,af⟩=ae v)(l:Int):
 aW prog 69 #[az<|ae ⟨b,o,af⟩,ag ah l] w fun e w'=>∃v,e=aV v/\Bq w w' v (bZ p.bG l 4)/\Fr aS w w':=by
 obtain⟨i0,ed,iI,ig,jg⟩:=aFq RV;have k3:aB w ⟨b,o+3,af⟩=ae (ag ah p.a):=hr 3 _ rfl;have k4:aB w ⟨b,o+3+1,af⟩=ae (ag ah p.b):=hr 4 _ rfl;have k5:aB w ⟨b,o+3+2,af⟩=ae (ag ah p.c):=hr 5 _ rfl;have k6:aB w ⟨b,o+3+3,af⟩=ae (ag ah p.d):=hr 6 _ rfl;clear hr;go_enter func69,ntmps69
 go_wp2_with fail
 go_loopw [5,12] (fun v i w'=>∃k:Nat,k<=4/\i=ag ah k/\Bq w w' v (bZ p.bG l k)/\Fr aS w w') (fun _ i _=>(4-eU i).toNat)
 case atStart=>exact⟨0,by omega,rfl,aFm _ _ _ _,Fr.refl _ _⟩
 case round=>
  obtain⟨k,hk,rfl,hv,dP⟩:=hrel
  have HF:aj (Fr aS w wr):=dP
  obtain⟨va,vc,rfl,DI⟩:=lI hv
  have HV:aj (bD wr w.heap.size 3 1 (.slice va (bZ p.bG l k).length vc) (bZ p.bG l k).length<|gm<|bZ p.bG l k):=hv
  have HL:aj ((bZ p.bG l k).length<=k):=abf _ _ _
  have HT:aj (bZ p.bG l (k+1)=bZ p.bG l k++(if l<=p.bG.getD k 0 then[(k:Int)]else[])):=aow _ _ _
  have fP:=dP.size
  clear dP hv DI
  by_cases aK:k<4
  ·have aAd:=aoB wr p aK
   generalize p.bG.getD k 0=x at aAd HT
   have zH:(k:Int)<4:=by omega
   by_cases hle:l<=x
   ·have NU:aj (bZ p.bG l (k+1)=bZ p.bG l k++[(k:Int)]):=by have:=HT.o;rw[if_pos hle]at this;exact this
    clear HT
    go_wp2_with (at_builtin;refine aFE _ rfl _ _ 43 rfl w.heap.size 3 i0 _ 1 8 underlying43 ed iI ig jg rfl (by decide) _ _ (gm<|bZ p.bG l k) rfl (by exact HV.o.alloc _) ⟨wr.heap.size,0,af⟩ 1 1 [ag ah k] rfl rfl (aFk (cs:=#[ag ah k]) (t:=3) (fr:=(0,0))<|aFb _ _) (by simp[Value.oneCell']) (by decide) (by have:=HL.o;simp only[eP];omega) (by have:=HL.o;omega) (by simp<;>omega) (wr.heap.size+1) (by simp) ?_;intro gg FC w3 o8 lX tH uQ)
    go_roundw
    case rel=>
     have DF:Fr (fun x=>Value.ownBlock (.slice va (bZ p.bG l k).length vc)=ae x) wr w3:=(dR.alloc _).grown lX fun x ex=>.inl ex
     refine⟨k+1,by omega,by go_num,?_,HF.o.t DF fun x hx=>.inr (HV.o.lt x hx).1⟩
     show w3.ownsRow _ _ _ _ _ _
     rw[NU.o]
     simpa[gm]using o8
    case measure=>simp[eU]<;>omega
   ·have NU:aj (bZ p.bG l (k+1)=bZ p.bG l k):=by have:=HT.o;rw[if_neg hle,qM]at this;exact this
    clear HT
    go_wp2_with fail
    go_roundw
    case rel=>exact⟨k+1,by omega,by go_num,by rw[NU.o];exact HV.o,HF.o⟩
    case measure=>simp[eU]<;>omega
  ·have yO:k=4:=by omega
   subst yO
   go_wp2
   go_ret
   exact⟨_,rfl,HV.o,HF.o⟩
end
section
def JB{fn:Func}{p u:Tmp}{ty:dJ}(h:fn.results=#[.cell p ty,.tmp u])(tmps:Array aA)(w:ay)(g:Nat)(t:dJ)(cs:Array aA)(fr:Nat×Nat)(d:TypeDesc)
 (hp:tmps.getD p ai=az (ae ⟨g,0,af⟩))(hg:w.heap[g]? =ae (.cells cs t fr))
 (hu:prog.underlying ty=ae d)(hd:d.isRow=true)(hi:(prog.info? ty).map (·.size)=ae cs.size):
 (results fn tmps).run prog w=.ok (dU #[.agg cs,tmps.getD u ai]) w:=by
 have:=run_loadVar_mid w g 0 ty cs.toList d (fun j v hv=>by rw[aQ hg];simpa using hv) hu hd (by simpa using hi);rw[results_cell_tmp h,hp];simp[asAddr,Result.andThen,this]
def agv(w:ay){b b' o o':Nat}(u:aA)(h:b≠b'):(aX w ⟨b',o',af⟩ u).cell? ⟨b,o,af⟩=aB w ⟨b,o,af⟩:=
 aFf (aFg w ⟨b',o',af⟩ u b h)
def JC:(prog.info? 58).map (·.size)=ae 5:=by kernel_rfl
variable{w:ay}{B xb n:Nat}{h:HS}
def agw:∀(l:List PS) (k:Nat) (e:PS) (j:Nat),l[k]? =ae e->j<10->(l.flatMap PS.cs)[k*10+j]? =e.cs[j]?
 |[],k,e,j,h,_=>by simp at h
 |x::r,0,e,j,h,hj=>by
  simp only[yV,gU]at h;subst h;simp only[pF];rw[vg (by simp[PS.cs]<;>omega)];simp
 |x::r,k+1,e,j,h,hj=>by
  simp only[Bi]at h;have:=agw r k e j h hj;simp only[pF]at this⊢
  rw[yj (by simp[PS.cs]<;>omega),<-this];congr 1;simp[PS.cs]<;>omega
variable{k:Nat}{p:PS}
def HS.aoC{h:HS}(hp:h.ps[k]? =ae p)(j:Nat)(v:aA)(hv:p.cs[j]? =ae v):h.cells.toArray[6+k*10+j]? =ae v:=by
 have hj:j<10:=(dS.1 hv).1;have hk:=(dS.1 hp).1;rw[anF,<-hv,<-agw h.ps k p j hp hj];unfold HS.cells;rw[yj (by simp<;>omega),vg (by rw[WW];simp only[oH,wu];omega)];congr 1;simp<;>omega
def aH.jy(hh:aH w B xb n h)(hp:h.ps[k]? =ae p)(j:Nat)(v:aA)(hv:p.cs[j]? =ae v):aB w ⟨xb,6+k*10+j,af⟩=ae v:=by
 rw[aQ hh.blk];exact HS.aoC hp j v hv
def agx{w2:ay}{b o:Nat}{l:List aA}(f:Fr aS w w2)(hb:b<w.heap.size)(hr:∀j v,l[j]? =ae v->aB w ⟨b,o+j,af⟩=ae v):∀j v,l[j]? =ae v->aB w2 ⟨b,o+j,af⟩=ae v:=
 fun j v hv=>(f.cell (p:=⟨b,o+j,af⟩) hb id).t<|hr j v hv
def aoD(hh:aH w B xb n h){m:Int}(hm:0<=m/\m<h.P)(hu:h.up=false):
 aW prog 30 #[az<|ae ⟨xb,0,af⟩,ag ah m] w fun r w'=>r=aV (dU #[iF #[ag ah 0,ag ah 0,ag ah 0,aN af 0 0,aN af 0 0],ag ah 5])/\Fr aS w w':=by
 have HH:aj (aH w B xb n h):=hh;have HM:aj (decide (0<=m/\m<h.P)=true):=jY hm;have c5:=hh.cU;rw[hu]at c5;have aK:=bn hh.blk;clear hh hm hu;go_enter func30,ntmps30
 go_wp2_with (go_at_call 64;refine(Bv (by exact HH.o.a<|bQ _) m).z ?_;rw[HM.o];rintro e w1 ⟨rfl,rfl⟩)
 refine aFx (JB rfl _ _ _ 58 _ (0,0) _ rfl (aFb _ _) underlying58 rfl JC) rfl ?_;exact⟨rfl,bQ _⟩
def agy(hh:aH w B xb n h)(hm:(k:Int)<h.P)(hu:h.up=true)(hp:h.ps[k]? =ae p):
 aW prog 30 #[az<|ae ⟨xb,0,af⟩,ag ah k] w fun r w'=>∃va vb,r=aV (dU #[iF #[ag ah p.e,ag ah p.t,ag ah p.s,va,vb],ag ah 0])/\Bq w w' va (bZ p.bG 1 4)/\Bq w w' vb (bZ p.bG 2 4)/\(∀k,bY va=ae k->bY vb≠ae k)/\Fr aS w w':=by
 have HH:aj (aH w B xb n h):=hh;have sS:k<6:=by have:=hh.hP.2;omega
 have HM:aj (decide (0<=(k:Int)/\(k:Int)<h.P)=true):=jY ⟨by omega,hm⟩;have HR:aj (∀j v,p.cs[j]? =ae v->aB w ⟨xb,6+k*10+j,af⟩=ae v):=fun j v hv=>hh.jy hp j v hv;have c5:=hh.cU;rw[hu]at c5;have aK:=bn hh.blk;have aCm:(0:Int)<=(k:Int):=by omega
 have aCn:(k:Int)<6:=by omega
 have e0:aB w ⟨xb,6+k*10,af⟩=ae (ag ah p.e):=HR.o 0 _ rfl;have e1:aB w ⟨xb,6+k*10+1,af⟩=ae (ag ah p.t):=HR.o 1 _ rfl;have e2:aB w ⟨xb,6+k*10+2,af⟩=ae (ag ah p.s):=HR.o 2 _ rfl;clear hh hm hu hp;go_enter func30,ntmps30
 go_wp2_with (go_at_call 64;refine(Bv (by exact HH.o.a<|bQ _) k).z ?_;rw[HM.o];rintro e w1 ⟨rfl,rfl⟩)
 have g0:(w.alloc<|aG #[ag ah 0,ag ah 0,ag ah 0,aN af 0 0,aN af 0 0] 58).cell? ⟨xb,6+k*10,af⟩=ae (ag ah p.e):=(aGA _ _ _ aK).t e0;go_region_held3 (fun w'=>aB w' ⟨xb,6+k*10,af⟩=ae (ag ah p.e)/\aB w' ⟨xb,6+k*10+1,af⟩=ae (ag ah p.t)/\aB w' ⟨xb,6+k*10+2,af⟩=ae (ag ah p.s))
  (first|with_reducible exact⟨h0,h1,h2⟩|with_reducible exact⟨f0,f1,f2⟩|go_keep|(simp only[agv _ _ bx];with_reducible exact⟨h0,h1,h2⟩))
  (first
    |(go_at_call 69;have _:=F1.o;refine(LW (p:=p) (by exact agx F1.o aK HR.o) 2).z ?_;rintro e w2 ⟨vb,rfl,AB,jS⟩
      obtain⟨ba,bc,rfl,_⟩:=lI AB
      have F2:aj (Fr aS w w2):=F1.o.t jS dw
      have V2:aj (bD w2 w1.heap.size 3 1 (.slice ba (bZ p.bG 2 4).length bc) (bZ p.bG 2 4).length<|gm<|bZ p.bG 2 4):=AB
      have U2:aj (bD w2 (w.heap.size+1) 3 1 (.slice aa (bZ p.bG 1 4).length ac) (bZ p.bG 1 4).length<|gm<|bZ p.bG 1 4):=jS.ownsRow V1.o fun _ _=>id
      have h0:aB w2 ⟨xb,6+k*10,af⟩=ae (ag ah p.e):=(F2.o.cell (p:=⟨xb,6+k*10,af⟩) aK id).t e0
      have h1:aB w2 ⟨xb,6+k*10+1,af⟩=ae (ag ah p.t):=(F2.o.cell (p:=⟨xb,6+k*10+1,af⟩) aK id).t e1
      have h2:aB w2 ⟨xb,6+k*10+2,af⟩=ae (ag ah p.s):=(F2.o.cell (p:=⟨xb,6+k*10+2,af⟩) aK id).t e2
      have B2:aj (w2.heap[w.heap.size]? =ae (aG #[ag ah 0,ag ah 0,ag ah 0,aN af 0 0,aN af 0 0] 58 (0,0))):=(jS.block _ (bn B1.o) id).t B1.o
      have b0:aB w2 ⟨w.heap.size,0,af⟩=ae (ag ah 0):=by rw[aQ B2.o];rfl
      have b1:aB w2 ⟨w.heap.size,1,af⟩=ae (ag ah 0):=by rw[aQ B2.o];rfl
      have b2:aB w2 ⟨w.heap.size,2,af⟩=ae (ag ah 0):=by rw[aQ B2.o];rfl
      have b3:aB w2 ⟨w.heap.size,3,af⟩=ae (aN af 0 0):=by rw[aQ B2.o];rfl
      have b4:aB w2 ⟨w.heap.size,4,af⟩=ae (aN af 0 0):=by rw[aQ B2.o];rfl
      have bf:∀o,w2.frozen? ⟨w.heap.size,o,af⟩=false:=kK B2.o
      have bx:xb≠w.heap.size:=by omega
      clear jS AB)
    |(go_at_call 69;refine(LW (p:=p) (by exact agx ((bQ _).drew) aK HR.o) 1).z ?_;rintro e w1 ⟨va,rfl,jP,bU⟩
      obtain⟨aa,ac,rfl,_⟩:=lI jP
      have F1:aj (Fr aS w w1):=((bQ _).drew).t bU dw
      have V1:aj (bD w1 (w.heap.size+1) 3 1 (.slice aa (bZ p.bG 1 4).length ac) (bZ p.bG 1 4).length<|gm<|bZ p.bG 1 4):=CU jP<|by simp
      have f0:aB w1 ⟨xb,6+k*10,af⟩=ae (ag ah p.e):=(F1.o.cell (p:=⟨xb,6+k*10,af⟩) aK id).t e0
      have f1:aB w1 ⟨xb,6+k*10+1,af⟩=ae (ag ah p.t):=(F1.o.cell (p:=⟨xb,6+k*10+1,af⟩) aK id).t e1
      have f2:aB w1 ⟨xb,6+k*10+2,af⟩=ae (ag ah p.s):=(F1.o.cell (p:=⟨xb,6+k*10+2,af⟩) aK id).t e2
      have B1:aj (w1.heap[w.heap.size]? =ae (aG #[ag ah 0,ag ah 0,ag ah 0,aN af 0 0,aN af 0 0] 58 (0,0))):=(bU.block _ (by simp) id).t (by show(bz w _).heap[w.heap.size]? =_;exact aFb _ _)
      clear bU jP))
 go_wp2
 have hb:=kU (kU (kU (kU (kU B2.o 0<|ag ah p.e) 1<|ag ah p.t) 2<|ag ah p.s) 3<|.slice aa (bZ p.bG 1 4).length ac) 4<|.slice ba (bZ p.bG 2 4).length bc;have fs:=(((((Fr.refl (fun x=>x=w.heap.size) w2).setCell (p:=⟨w.heap.size,0,af⟩) (.inl rfl)<|ag ah p.e).setCell (p:=⟨w.heap.size,1,af⟩) (.inl rfl)<|ag ah p.t).setCell (p:=⟨w.heap.size,2,af⟩) (.inl rfl)<|ag ah p.s).setCell (p:=⟨w.heap.size,3,af⟩) (.inl rfl)<|.slice aa (bZ p.bG 1 4).length ac).setCell (p:=⟨w.heap.size,4,af⟩) (.inl rfl)<|.slice ba (bZ p.bG 2 4).length bc;have hz:w.heap.size<w1.heap.size:=bn B1.o;refine aFx (JB rfl _ _ _ 58 _ (0,0) _ rfl hb underlying58 rfl JC) rfl ?_;refine⟨_,_,rfl,?_,?_,fun x hx hy=>?_,F2.o.t fs fun x hx=>.inr<|by omega⟩
 ·exact CU (fs.ownsRow U2.o (fun x hx e=>by have:=(U2.o.lt x hx).1;omega))<|by omega
 ·exact CU (fs.ownsRow V2.o (fun x hx e=>by have:=(V2.o.lt x hx).1;omega))<|by omega
 ·have h3:=(V1.o.lt x hx).2;have h4:=(V2.o.lt x hy).1;omega
end
section
def agz:∀(l:List PL) (k:Nat) (e:PL) (j:Nat),l[k]? =ae e->j<2->(qj l)[k*2+j]? =e.cs[j]?
 |[],k,e,j,h,_=>by simp at h
 |x::r,0,e,j,h,hj=>by
  simp only[yV,gU]at h;subst h;simp only[qj,pF];rw[vg (by simp[PL.cs]<;>omega)];simp
 |x::r,k+1,e,j,h,hj=>by
  simp only[Bi]at h;have:=agz r k e j h hj;simp only[qj,pF]at this⊢
  rw[yj (by simp[PL.cs]<;>omega),<-this];congr 1;simp[PL.cs]<;>omega
def abg{w:ay}{B g n cap:Nat}{l:List PL}(h:bD w B 98 2 (aN (ae ⟨g,0,af⟩) n cap) l.length (qj l)){k:Nat}{e:PL}(hk:l[k]? =ae e):
 w.cell? ⟨g,k*2,af⟩=ae (az<|ae ⟨e.lb,0,af⟩)/\aB w ⟨g,k*2+1,af⟩=ae (aF e.out):=by
 have hc:=h.cells (g:=g) rfl;have key:∀j u,j<2->e.cs[j]? =ae u->aB w ⟨g,k*2+j,af⟩=ae u:=fun j u hj hu=>by
  have:=hc (k*2+j) u<|(agz l k e j hk hj).t hu;rw[aFA]at this;simpa using this
 exact⟨key 0 _ (by omega) rfl,key 1 _ (by omega) rfl⟩
def agA:(prog.info? 62).map (·.size)=ae 4:=by kernel_rfl
variable{w:ay}{B xb n:Nat}{h:HS}
variable{k:Nat}{p:PL}
def aH.place(hh:aH w B xb n h)(hk:h.pl[k]? =ae p):∃g cap,h.pv=aN (ae ⟨g,0,af⟩) h.pl.length cap/\g<w.heap.size/\h.pl.length<=cap/\
 w.cell? ⟨g,k*2,af⟩=ae (az<|ae ⟨p.lb,0,af⟩)/\aB w ⟨g,k*2+1,af⟩=ae (aF p.out):=by
 have aK:=(dS.1 hk).1;rcases hh.ku.2 with⟨hv,h0⟩|⟨g,cap,cur,hv,hb,hg,h1,h2,_⟩
 ·omega
 ·have:=hh.ku;rw[hv]at this;exact⟨g,cap,hv,bn hg,h1,abg this hk⟩
def aCo(hh:aH w B xb n h){m:Int}(hm:¬(0<=m/\m<h.pl.length)):
 aW prog 23 #[az<|ae ⟨xb,0,af⟩,ag ah m] w fun r w'=>r=aV (dU #[iF #[aF false,ag ah 0,ag ah 0,aN af 0 0],ag ah 3])/\Fr aS w w':=by
 have HH:aj (aH w B xb n h):=hh;have HM:aj (decide (0<=m/\m<h.pl.length)=false):=qZ hm;clear hh hm;go_enter func23,ntmps23
 go_wp2_with (go_at_call 50;refine(LV (by exact HH.o.a<|bQ _) m).z ?_;rw[HM.o];rintro e w1 ⟨rfl,rfl⟩)
 refine aFx (JB rfl _ _ _ 62 _ (0,0) _ rfl (aFb _ _) underlying62 rfl agA) rfl ?_;exact⟨rfl,bQ _⟩
def aoE(hh:aH w B xb n h)(hk:h.pl[k]? =ae p)(f1 f2:Int)(hi:Inv p.s)(hb:p.s.es.length*40<=140737488355328):
 aW prog 57 #[az<|ae ⟨xb,0,af⟩,ag ah k,ag ah f1,ag ah f2] w fun r w'=>∃va,r=aV (dU #[va,ag ah 0])/\bD w' w.heap.size 94 3 va (p.s.CS f1 f2).length (rq<|p.s.CS f1 f2)/\Fr aS w w':=by
 have oq:=(dS.1 hk).1;have HH:aj (aH w B xb n h):=hh;have HM:aj (decide (0<=(k:Int)/\(k:Int)<h.pl.length)=true):=jY ⟨by omega,by omega⟩;obtain⟨g,cap,hv,hg,vP,p0,p1⟩:=hh.place hk;have LX:aj (fA w B p.lb p.bm p.v n p.s):=hh.dZ p<|gZ hk;have HI:aj (Inv p.s):=hi;have HB:aj (p.s.es.length*40<=140737488355328):=hb;have c5:=hh.cV;rw[hv]at c5;have sU:(0:Int)<=(k:Int):=by omega
 have aT:(k:Int)<(h.pl.length:Int):=by omega
 clear hh hk hi hb;go_enter func57,ntmps57
 go_wp2_with (first
  |(go_at_call 50;refine(LV HH.o k).z ?_;rw[HM.o];rintro e w1 ⟨rfl,rfl⟩)
  |(go_at_call 121;refine(aob LX.o HI.o.wf HB.o f1 f2).z ?_;rintro e w1 ⟨va,rfl,jP,bU⟩
    have V1:aj (bD w1 w.heap.size 94 3 va (p.s.CS f1 f2).length<|rq<|p.s.CS f1 f2):=jP
    have F1:aj (Fr aS w w1):=bU
    clear jP bU))
 go_ret2
 exact⟨_,rfl,V1.o,F1.o⟩
def aoF(hh:aH w B xb n h)(hk:h.pl[k]? =ae p)(hb:p.s.es.length*40<=140737488355328):
 aW prog 17 #[az<|ae ⟨xb,0,af⟩,ag ah k] w fun r w'=>∃va,r=aV (dU #[va,ag ah 0])/\bD w' w.heap.size 55 4 va p.s.es.length (pG p.s.es)/\Fr aS w w':=by
 have oq:=(dS.1 hk).1;have HH:aj (aH w B xb n h):=hh;have HM:aj (decide (0<=(k:Int)/\(k:Int)<h.pl.length)=true):=jY ⟨by omega,by omega⟩;obtain⟨g,cap,hv,hg,vP,p0,p1⟩:=hh.place hk;have LX:aj (fA w B p.lb p.bm p.v n p.s):=hh.dZ p<|gZ hk;have HB:aj (p.s.es.length*40<=140737488355328):=hb;have c5:=hh.cV;rw[hv]at c5;have sU:(0:Int)<=(k:Int):=by omega
 have aT:(k:Int)<(h.pl.length:Int):=by omega
 clear hh hk hb;go_enter func17,ntmps17
 go_wp2_with (first
  |(go_at_call 50;refine(LV HH.o k).z ?_;rw[HM.o];rintro e w1 ⟨rfl,rfl⟩)
  |(go_at_call 51;refine(afY LX.o HB.o).z ?_;rintro e w1 ⟨va,rfl,jP,bU⟩
    have V1:aj (bD w1 w.heap.size 55 4 va p.s.es.length<|pG p.s.es):=jP
    have F1:aj (Fr aS w w1):=bU
    clear jP bU))
 go_ret2
 exact⟨_,rfl,V1.o,F1.o⟩
def O1(hh:aH w B xb n h)(m:Int):
 aW prog 139 #[az<|ae ⟨xb,69,af⟩,ag ah m] w fun e w'=>e=aV (.bool<|decide<|0<=m/\m<h.fl.length)/\w=w':=by
 have c0:=hh.cF;obtain⟨pa,pc,hp,_⟩:=oP hh.nM;rw[hp]at c0;clear hh;by_cases h1:0<=m
 ·by_cases h2:m<h.fl.length
  ·go_enter func139,ntmps139
   go_wp2
   go_ret;exact⟨by simp[h1,h2],rfl⟩
  ·go_enter func139,ntmps139
   go_wp2
   go_ret;exact⟨by simp[h2],rfl⟩
 ·go_enter func139,ntmps139
  go_wp2
  go_ret;exact⟨by rw[abe<|by omega]<;>rfl,rfl⟩
def aoG(hh:aH w B xb n h):aW prog 36 #[az<|ae ⟨xb,0,af⟩] w fun r w'=>r=aV (ag ah h.fl.length)/\Fr aS w w':=by
 have c0:=hh.cF;obtain⟨pa,pc,hp,_⟩:=oP hh.nM;rw[hp]at c0;clear hh;go_enter func36,ntmps36
 go_wp2
 go_ret;exact⟨rfl,Fr.refl _ _⟩
end
section
def abh(n:Nat)(s:aJ)(S:List Int):Prop:=S.Pairwise (· < ·)/\S.length<=n/\(∀x∈S,fO x)/\∀x,fO x->(x∈S↔∃t,s.nw x=ae (t,true))
variable{w:ay}{B xb n:Nat}{h:HS}
def agB(hh:aH w B xb n h){k:Nat}{p:PL}(hk:h.pl[k]? =ae p)(hi:Inv p.s)(hb:p.s.es.length*40<=140737488355328)(hn:(n+1)*8<=140737488355328):
 aW prog 23 #[az<|ae ⟨xb,0,af⟩,ag ah k] w fun r w'=>∃va S,r=aV (dU #[iF #[aF p.out,ag ah p.s.es.length,ag ah p.s.dC,va],ag ah 0])/\abh n p.s S/\Bq w w' va S/\Fr aS w w':=by
 have oq:=(dS.1 hk).1;have HH:aj (aH w B xb n h):=hh;have HM:aj (decide (0<=(k:Int)/\(k:Int)<h.pl.length)=true):=jY ⟨by omega,by omega⟩;obtain⟨g,cap,hv,hg,vP,p0,p1⟩:=hh.place hk;have LX:aj (fA w B p.lb p.bm p.v n p.s):=hh.dZ p<|gZ hk;have HI:aj (Inv p.s):=hi;have HB:aj (p.s.es.length*40<=140737488355328):=hb;have HN:aj ((n+1)*8<=140737488355328):=hn;have c5:=hh.cV;rw[hv]at c5;have sU:(0:Int)<=(k:Int):=by omega
 have aT:(k:Int)<(h.pl.length:Int):=by omega
 have aK:=bn hh.blk;have bx:g≠w.heap.size:=by omega
 clear hh hk hi hb hn;go_enter func23,ntmps23
 go_wp2_with (go_at_call 50;refine(LV (by exact HH.o.a<|bQ _) k).z ?_;rw[HM.o];rintro e w1 ⟨rfl,rfl⟩)
 go_region_held3 (fun w'=>aB w' ⟨g,k*2,af⟩=ae (az<|ae ⟨p.lb,0,af⟩)/\aB w' ⟨g,k*2+1,af⟩=ae (aF p.out))
  (first|with_reducible exact⟨i0,i1⟩|with_reducible exact⟨h0,h1⟩|with_reducible exact⟨f0,f1⟩|go_keep|(simp only[agv _ _ bx];with_reducible exact⟨i0,i1⟩))
  (first
    |(go_at_call 51;refine(afY (by exact((bQ _).drew).logAt LX.o id id fun _ _=>id) HB.o).z ?_;rintro e w1 ⟨va,rfl,jP,bU⟩
      obtain⟨ea,ec,rfl,_⟩:=oP jP
      have F1:aj (Fr aS w w1):=((bQ _).drew).t bU dw
      have f0:aB w1 ⟨g,k*2,af⟩=ae (az<|ae ⟨p.lb,0,af⟩):=(F1.o.cell (p:=⟨g,k*2,af⟩) hg id).t p0
      have f1:aB w1 ⟨g,k*2+1,af⟩=ae (aF p.out):=(F1.o.cell (p:=⟨g,k*2+1,af⟩) hg id).t p1
      have B1:aj (w1.heap[w.heap.size]? =ae (aG #[aF false,ag ah 0,ag ah 0,aN af 0 0] 62 (0,0))):=(bU.block _ (by simp) id).t (by show(bz w _).heap[w.heap.size]? =_;exact aFb _ _)
      clear bU jP)
    |(go_at_call 59;refine(afX (by exact F1.o.logAt LX.o id id fun _ _=>id) HI.o.wf).z ?_;rintro e w2 ⟨rfl,jS⟩
      have F2:aj (Fr aS w w2):=F1.o.t jS dw
      have h0:aB w2 ⟨g,k*2,af⟩=ae (az<|ae ⟨p.lb,0,af⟩):=(F2.o.cell (p:=⟨g,k*2,af⟩) hg id).t p0
      have h1:aB w2 ⟨g,k*2+1,af⟩=ae (aF p.out):=(F2.o.cell (p:=⟨g,k*2+1,af⟩) hg id).t p1
      have B2:aj (w2.heap[w.heap.size]? =ae (aG #[aF false,ag ah 0,ag ah 0,aN af 0 0] 62 (0,0))):=(jS.block _ (bn B1.o) id).t B1.o
      clear jS)
    |(go_at_call 60;refine(agq (by exact F2.o.logAt LX.o id id fun _ _=>id) HN.o).z ?_;rintro e w3 ⟨vb,S,rfl,QU,lM,hs⟩
      obtain⟨ba,bc,rfl,_⟩:=lI QU
      have F3:aj (Fr aS w w3):=F2.o.t lM dw
      have HSS:aj (abh n p.s S):=hs
      have V3:aj (bD w3 w2.heap.size 3 1 (.slice ba S.length bc) S.length<|gm S):=QU
      have i0:aB w3 ⟨g,k*2,af⟩=ae (az<|ae ⟨p.lb,0,af⟩):=(F3.o.cell (p:=⟨g,k*2,af⟩) hg id).t p0
      have i1:aB w3 ⟨g,k*2+1,af⟩=ae (aF p.out):=(F3.o.cell (p:=⟨g,k*2+1,af⟩) hg id).t p1
      have B3:aj (w3.heap[w.heap.size]? =ae (aG #[aF false,ag ah 0,ag ah 0,aN af 0 0] 62 (0,0))):=(lM.block _ (bn B2.o) id).t B2.o
      have b0:aB w3 ⟨w.heap.size,0,af⟩=ae (aF false):=by rw[aQ B3.o];rfl
      have b1:aB w3 ⟨w.heap.size,1,af⟩=ae (ag ah 0):=by rw[aQ B3.o];rfl
      have b2:aB w3 ⟨w.heap.size,2,af⟩=ae (ag ah 0):=by rw[aQ B3.o];rfl
      have b3:aB w3 ⟨w.heap.size,3,af⟩=ae (aN af 0 0):=by rw[aQ B3.o];rfl
      have bf:∀o,w3.frozen? ⟨w.heap.size,o,af⟩=false:=kK B3.o
      clear lM QU hs))
 go_wp2
 have hb:=kU (kU (kU (kU B3.o 0<|aF p.out) 1<|ag ah p.s.es.length) 2<|ag ah p.s.dC) 3<|.slice ba S.length bc;have fs:=((((Fr.refl (fun x=>x=w.heap.size) w3).setCell (p:=⟨w.heap.size,0,af⟩) (.inl rfl)<|aF p.out).setCell (p:=⟨w.heap.size,1,af⟩) (.inl rfl)<|ag ah p.s.es.length).setCell (p:=⟨w.heap.size,2,af⟩) (.inl rfl)<|ag ah p.s.dC).setCell (p:=⟨w.heap.size,3,af⟩) (.inl rfl)<|.slice ba S.length bc;have hz:w.heap.size<w2.heap.size:=bn B2.o;refine aFx (JB rfl _ _ _ 62 _ (0,0) _ rfl hb underlying62 rfl agA) rfl ?_;refine⟨_,S,rfl,HSS.o,?_,F3.o.t fs fun x hx=>.inr<|by omega⟩;exact CU (fs.ownsRow V3.o (fun x hx e=>by have:=(V3.o.lt x hx).1;omega))<|by omega
def agC(hh:aH w B xb n h):
 aW prog 44 #[az<|ae ⟨xb,0,af⟩] w fun r w'=>r=aV (.int .i64<|if h.up then 0 else 5)/\aH w' B xb n (if h.up then h.yx else h)/\Fr (fun k=>k=xb) w w':=by
 have HH:aj (aH w B xb n h):=hh;have c5:=hh.cU;clear hh;cases hu:h.up
 ·rw[hu]at c5;go_enter func44,ntmps44
  go_wp2
  go_ret;exact⟨rfl,HH.o,Fr.refl _ _⟩
 ·rw[hu]at c5;go_enter func44,ntmps44
  go_wp2_with (go_at_call 104;refine(abd HH.o).z ?_;rintro e w1 ⟨rfl,bU⟩;have H1:aj (aH w1 B xb n h.yx/\Fr (fun k=>k=xb) w w1):=bU;clear bU)
  go_ret;exact⟨rfl,H1.o⟩
end
section
def rU(b:Nat):Array Value:=#[.nilFunc,.func (.func 179) #[] #[az<|ae ⟨b,0,af⟩],.func (.func 180) #[] #[az<|ae ⟨b,0,af⟩],.func (.func 181) #[] #[az<|ae ⟨b,0,af⟩],.func (.func 182) #[] #[az<|ae ⟨b,0,af⟩]]
def WX:(prog.info? 193).map (·.size)=ae 5:=by kernel_rfl
def agD{fn:Func}{p:Tmp}{ty:dJ}(h:fn.results=#[.cell p ty])(tmps:Array aA)(w:ay)(g:Nat)(t:dJ)(cs:Array aA)(fr:Nat×Nat)(d:TypeDesc)
 (hp:tmps.getD p ai=az (ae ⟨g,0,af⟩))(hg:w.heap[g]? =ae (.cells cs t fr))
 (hu:prog.underlying ty=ae d)(hd:d.isRow=true)(hi:(prog.info? ty).map (·.size)=ae cs.size):
 (results fn tmps).run prog w=.ok (.agg cs) w:=by
 have:=run_loadVar_mid w g 0 ty cs.toList d (fun j v hv=>by rw[aQ hg];simpa using hv) hu hd (by simpa using hi);have qV:tmps[p]?.getD ai=az (ae ⟨g,0,af⟩):=by simpa using hp
 simp[results,h,qV,asAddr,this]
variable{w:ay}{B xb n:Nat}{h:HS}
def O3(kv:Option Addr):aW prog 128 #[.pointer kv] w fun r w'=>r=aV (.agg<|rU w.heap.size)/\w'.heap[w.heap.size]? =ae (aG #[.pointer kv] 181 (0,0))/\Fr aS w w':=by
 have hb:((w.alloc<|aG #[.pointer kv] 181).alloc<|aG #[.nilFunc,.nilFunc,.nilFunc,.nilFunc,.nilFunc] 193).heap[w.heap.size+1]? =ae (aG #[.nilFunc,.nilFunc,.nilFunc,.nilFunc,.nilFunc] 193 (0,0)):=by
  have:=aFb (w.alloc<|aG #[.pointer kv] 181)<|aG #[.nilFunc,.nilFunc,.nilFunc,.nilFunc,.nilFunc] 193;simpa using this
 have hth:=LQ hb (o:=0) (n:=5) (by simp);have HB:aj (((w.alloc<|aG #[.pointer kv] 181).alloc<|aG #[.nilFunc,.nilFunc,.nilFunc,.nilFunc,.nilFunc] 193).heap[w.heap.size+1]? =ae (aG #[.nilFunc,.nilFunc,.nilFunc,.nilFunc,.nilFunc] 193 (0,0))):=hb;have HT:aj (((w.alloc<|aG #[.pointer kv] 181).alloc<|aG #[.nilFunc,.nilFunc,.nilFunc,.nilFunc,.nilFunc] 193).there (w.heap.size+1) 0 5):=hth;clear hb hth;go_enter func128,ntmps128
 go_wp2_with (refine aFM rfl 193 _ _ rfl (w.heap.size+1) 0 (rU w.heap.size) rfl rfl HT.o WX (by simp[rU,Value.oneCell']) ?_)
 have hb:=JA (rU w.heap.size).toList 0 HB.o;have fs:Fr aS w _:=Fr.setCells (S:=fun _=>False) (b:=w.heap.size+1) (.inr<|by omega) (rU w.heap.size).toList 0<|((Fr.refl (fun _=>False) w).alloc<|aG #[.pointer kv] 181).alloc<|aG #[.nilFunc,.nilFunc,.nilFunc,.nilFunc,.nilFunc] 193;have f1:Fr (fun k=>k=w.heap.size+1) (w.alloc<|aG #[.pointer kv] 181) _:=Fr.setCells (S:=fun k=>k=w.heap.size+1) (b:=w.heap.size+1) (.inl rfl) (rU w.heap.size).toList 0<|(Fr.refl (fun k=>k=w.heap.size+1) _).alloc<|aG #[.nilFunc,.nilFunc,.nilFunc,.nilFunc,.nilFunc] 193;refine aFx (agD rfl _ _ _ 193 (rU w.heap.size) (0,0) _ rfl hb underlying193 rfl WX) rfl ?_;exact⟨rfl,(f1.block _ (by simp)<|by omega).t<|aFb _ _,fs⟩
def aoI(w:ay):aW prog 177 #[aN af 0 0] w fun r w'=>r=aV (aF false)/\Fr aS w w':=by
 go_enter func177,ntmps177
 go_wp2_with fail
 go_quiet (fail)
 go_wp2
 go_ret;exact⟨rfl,dR.drewN _⟩
def aoJ(w:ay):aW prog 127 #[aN af 0 0] w fun r w'=>r=aV (aN af 0 0)/\Fr aS w w':=by
 go_enter func127,ntmps127
 go_wp2_with fail
 go_loopw [0,3] (fun a b w'=>a=aN af 0 0/\b=aN af 0 0/\w'=w) (fun _ _ _=>0)
 case atStart=>exact⟨rfl,rfl,rfl⟩
 case round=>
  obtain⟨rfl,rfl,rfl⟩:=hrel
  go_wp2_with (go_at_call 177;refine(aoI _).z ?_;rintro e w1 ⟨rfl,hf⟩;have HF:aj (Fr aS wr w1):=hf;clear hf)
  go_ret
  exact⟨rfl,HF.o⟩
def HS.yX(h:HS):HS:={h with up:=true}
def HS.agE(h:HS):h.cells.toArray.setIfInBounds 5 (aF true)=h.yX.cells.toArray:=by
 obtain⟨P,Q,T,K,jv,jb,up,ps,br,kp,pv,pl,fv,fl⟩:=h;simp[HS.cells,HS.yX]
def HS.agF(h:HS):h.cells.toArray.setIfInBounds 4 h.jv=h.cells.toArray:=by
 obtain⟨P,Q,T,K,jv,jb,up,ps,br,kp,pv,pl,fv,fl⟩:=h;simp[HS.cells]
def aoK(w:ay):(Instr.slice 99 (aN af 0 0) af (ae<|ag ah 0) af).run prog w=.ok (aN af 0 0) w:=by kernel_rfl
def aoL(hh:aH w B xb n h)(hj:h.jv=aN af 0 0):
 aW prog 68 #[az<|ae ⟨xb,4,af⟩] w fun r w'=>r=aV (dU #[])/\aH w' B xb n h.yX/\Fr (fun k=>k=xb) w w':=by
 have HH:aj (aH w B xb n h):=hh;have HJ:aj (h.jv=aN af 0 0):=hj;have c4:=hh.cJ;rw[hj]at c4;have c5:=hh.cU;have aK:=bn hh.blk;have KN:=aoK;clear hh hj;go_enter func68,ntmps68
 go_wp2_with (first
  |(go_at_call 127;refine(aoJ w).z ?_;rintro e w1 ⟨rfl,bU⟩
    have F1:aj (Fr aS w w1):=bU
    have B1:aj (w1.heap[xb]? =ae (.cells h.cells.toArray 111 (0,0))):=(bU.block xb aK id).t HH.o.blk
    have d4:aB w1 ⟨xb,4,af⟩=ae (aN af 0 0):=(bU.cell (p:=⟨xb,4,af⟩) aK id).t c4
    have d5:aB w1 ⟨xb,5,af⟩=ae (aF h.up):=(bU.cell (p:=⟨xb,5,af⟩) aK id).t c5
    have df:∀o,w1.frozen? ⟨xb,o,af⟩=false:=kK B1.o
    have ig:xb<w1.heap.size:=gu aK bU.size
    clear bU)
  |(go_at_call 128;refine(O3 _).z ?_;rintro e w2 ⟨rfl,sV,jS⟩
    have S2:aj (Fr aS (aX w1 ⟨xb,4,af⟩<|aN af 0 0) w2):=jS
    have T2:aj ((w2.alloc<|aG #[.nilFunc,.nilFunc,.nilFunc,.nilFunc,.nilFunc] 193).there w2.heap.size 0 5):=LQ (aFb _ _)<|by simp
    clear sV jS)
  |(refine aFM rfl 193 _ _ rfl w2.heap.size 0 (rU w1.heap.size) rfl rfl T2.o WX (by simp[rU,Value.oneCell']) ?_
    have hW:Fr aS w2 _:=Fr.setCells (S:=fun _=>False) (b:=w2.heap.size) (.inr<|dI _) (rU w1.heap.size).toList 0<|(Fr.refl (fun _=>False) w2).alloc<|aG #[.nilFunc,.nilFunc,.nilFunc,.nilFunc,.nilFunc] 193
    generalize((w2.alloc<|aG #[.nilFunc,.nilFunc,.nilFunc,.nilFunc,.nilFunc] 193).setCells w2.heap.size 0 (rU w1.heap.size).toList)=w3 at hW⊢
    have S3:aj (Fr aS (aX w1 ⟨xb,4,af⟩<|aN af 0 0) w3):=S2.o.t hW dw
    have B3:aj (w3.heap[xb]? =ae (.cells h.cells.toArray 111 (0,0))):=by
     refine(S3.o.block xb (by simpa using ig) id).t<|(kU B1.o 4<|aN af 0 0).t ?_;have:=h.agF;rw[HJ.o]at this;rw[this]
    have m5:aB w3 ⟨xb,5,af⟩=ae (aF h.up):=by rw[aQ B3.o];rfl
    have mf:∀o,w3.frozen? ⟨xb,o,af⟩=false:=kK B3.o
    clear hW))
 go_loopw [26] (fun i w'=>i=ag ah 0/\w'=w3) (fun _ _=>0)
 case atStart=>exact⟨rfl,rfl⟩
 case round=>
  obtain⟨rfl,rfl⟩:=hrel
  go_wp2
  go_end0
  have f1:Fr (fun k=>k=xb) w (aX w1 ⟨xb,4,af⟩<|aN af 0 0):=(F1.o.z dw:Fr (fun k=>k=xb) w w1).setCell (p:=⟨xb,4,af⟩) (.inl rfl) _
  have f2:Fr (fun k=>k=xb) w (aX wr ⟨xb,5,af⟩<|aF true):=(f1.t S3.o dw).setCell (p:=⟨xb,5,af⟩) (.inl rfl) _
  refine⟨rfl,HH.o.put f2 ?_ rfl rfl rfl rfl rfl rfl rfl rfl HH.o.h6,f2⟩
  rw[kU B3.o,h.agE]
def aoM(hh:aH w B xb n h)(hu:h.up=true):
 aW prog 29 #[az<|ae ⟨xb,0,af⟩] w fun r w'=>r=aV (ag ah 6)/\w=w':=by
 have c5:=hh.cU;rw[hu]at c5;clear hh;go_enter func29,ntmps29
 go_wp2
 go_ret;exact⟨rfl,rfl⟩
end
structure Rc where
 k:Int
 p:Int
 a:Int
 m:Int
structure Du where
 p:Int
 q:Int
 t:Int
 g:Int
def Rc.cs(r:Rc):List Value:=[ag ah r.k,ag ah r.p,ag ah r.a,ag ah r.m]
section
variable{w:ay}
def Fr.dr(w:ay):Fr aS w w.drew:=dR.drew
end
section
variable{w:ay}{B:Nat}
def WY{ty:dJ}{wd:Nat}{v:aA}{n:Nat}{xs:List aA}{b:Nat}{cs:Array aA}{t:dJ}{fr:Nat×Nat}(h:bD w B ty wd v n xs)(hb:w.heap[b]? =ae (.cells cs t fr))(dD:ty≠t):bY v≠ae b:=fun e=>by
 have h1:=iY h e;rw[mO hb]at h1;exact dD h1.s
end
def aoN(w:ay)(m b:Int):aW prog 70 #[ag ah m,ag ah b] w fun e w'=>e=aV (.bool<|decide<|1<=m/\m<=b)/\w=w':=by
 by_cases h1:1<=m
 ·by_cases h2:m<=b
  ·go_enter func70,ntmps70
   go_wp2
   go_ret;exact⟨by simp[h1,h2],rfl⟩
  ·go_enter func70,ntmps70
   go_wp2
   go_ret;exact⟨by simp[h2],rfl⟩
 ·go_enter func70,ntmps70
  go_wp2
  go_ret;have:decide (1<=m)=false:=qZ (by omega);exact⟨by rw[this]<;>rfl,rfl⟩
def jI(P Q T K:Int):Value:=iF #[ag ah P,ag ah Q,ag ah T,ag ah K]
def Good(P Q T K:Int):Prop:=(1<=P/\P<=6)/\(1<=Q/\Q<=4)/\(1<=T/\T<=50)/\(1<=K/\K<=16)
def rV:aJ:=⟨[],0,fun _=>af⟩
def yY(P Q T K:Int)(pv:aA)(pl:List PL):HS:=⟨P,Q,T,K,aN af 0 0,[],false,xm,false,0,pv,pl,aN af 0 0,[]⟩
def aoO(P Q T K:Int)(pv GK:aA)(pl gW:List PL):(yY P Q T K pv pl).cells.toArray.setIfInBounds 68 GK=(yY P Q T K GK gW).cells.toArray:=by kernel_rfl
def Bz{w:ay}(o:Obj){k:Nat}(hk:k=w.heap.size):(bz w o).heap[k]? =ae o:=by subst hk;exact aFb w o
def jk(pl:List PL):Prop:=∀(i j:Nat) (p q:PL),i≠j->pl[i]? =ae p->pl[j]? =ae q->∀k,CW p.lb p.bm p.v k->CW q.lb q.bm q.v k->False
def WZ{α:Type}{l:List α}{x e:α}{i:Nat}(h:(l++[x])[i]? =ae e):(i<l.length/\l[i]? =ae e)\/(i=l.length/\e=x):=by
 rcases FB i l.length with hi|hi
 ·rw[vg hi]at h;exact .inl ⟨hi,h⟩
 ·rw[yj hi]at h;rcases Nat.eq_or_lt_of_le hi with e2|e2
  ·subst e2;simp at h;exact .inr ⟨rfl,h.s⟩
  ·have:1<=i-l.length:=by omega
   rw[afO<|by simpa using this]at h;cases h
structure RZ(w w':ay)(P Q T K:Int)(k:Nat)(pv:aA)(pl:List PL):Prop where
 blk:w'.heap[w.heap.size+1]? =ae (.cells (yY P Q T K pv pl).cells.toArray 111 (0,0))
 len:pl.length=k
 ku:bD w' w.heap.size 98 2 pv pl.length (qj pl)
 dZ:∀p∈pl,fA w' w.heap.size p.lb p.bm p.v 0 p.s
 new:∀p∈pl,p.s=rV/\p.out=false
 fr:Fr aS w w'
 ap:jk pl
def fA.base{w:ay}{B B' lb bm n:Nat}{v:aA}{s:aJ}(h:fA w B lb bm v n s)(hB:B'<=B):fA w B' lb bm v n s:=
 ⟨h.blk,CU h.row hB,h.map,fG hB h.hl,fG hB h.hm⟩
def RZ.step{w wr X w1 W w3:ay}{P Q T K:Int}{k:Nat}{pv GK:aA}{pl:List PL}(h:RZ w wr P Q T K k pv pl)(fX:Fr aS wr X)(hl:fA w1 X.heap.size (X.heap.size+1) X.heap.size (aN af 0 0) 0 rV)(f1:Fr aS X w1)
 (fW:Fr aS w1 W)(hg:W.grownBy w3 pv.ownBlock)(jf:bD w3 w.heap.size 98 2 GK (k+1) (qj pl++[ptr<|X.heap.size+1,aF false]))(fC:∀q,GK.ownBlock=ae q->bY pv=ae q\/wr.heap.size<=q):
 RZ w (aX w3 ⟨w.heap.size+1,68,af⟩ GK) P Q T K (k+1) GK (pl++[⟨X.heap.size+1,X.heap.size,aN af 0 0,rV,false⟩]):=by
 have hx:=bn h.blk;have fw:Fr aS wr W:=((fX.t f1 dw).t fW dw);have f3:Fr (fun q=>bY pv=ae q) wr w3:=(fw.z dw).grown hg fun q e=>.inl e;have KO:bY pv≠ae (w.heap.size+1):=fun e=>by
  have h1:=iY h.ku e;rw[mO h.blk]at h1;cases h1
 have b3:w3.heap[w.heap.size+1]? =ae (.cells (yY P Q T K pv pl).cells.toArray 111 (0,0)):=(f3.block _ hx KO).t h.blk;have fs:Fr (fun q=>q=w.heap.size+1) w3 (aX w3 ⟨w.heap.size+1,68,af⟩ GK):=(Fr.refl (fun q=>q=w.heap.size+1) w3).setCell (p:=⟨w.heap.size+1,68,af⟩) (.inl rfl) _;have f4:Fr (fun q=>bY pv=ae q\/q=w.heap.size+1) wr (aX w3 ⟨w.heap.size+1,68,af⟩ GK):=(f3.z fun q e=>.inl<|.inl e).t fs fun q e=>.inl<|.inr e;have fP:=fX.size;refine⟨?_,by simp[h.len],?_,?_,?_,?_,?_⟩
 ·rw[kU b3,aoO]
 ·have e1:qj (pl++[⟨X.heap.size+1,X.heap.size,aN af 0 0,rV,false⟩])=qj pl++[ptr<|X.heap.size+1,aF false]:=by simp[qj,PL.cs]
  rw[e1,iW,h.len];refine fs.ownsRow jf fun q hq e=>?_;subst e;rcases fC _ hq with a|a
  ·exact KO a
  ·omega
 ·intro p hp;rcases oN.1 hp with hp|hp
  ·refine(h.dZ p hp).stay f4 fun q hq hf=>?_;rcases hq with hq|hq
   ·have h0:=iY h.ku hq;rcases(h.dZ p hp).tags hf with h1|h1|h1<;>rw[h0]at h1<;>cases h1
   ·have h0:=mO h.blk;subst hq;rcases(h.dZ p hp).tags hf with h1|h1|h1<;>rw[h0]at h1<;>cases h1
  ·simp only[oM]at hp;subst hp;have g3:Fr (fun q=>bY pv=ae q) w1 w3:=(fW.z dw).grown hg fun q e=>.inl e;have g4:Fr (fun q=>bY pv=ae q\/q=w.heap.size+1) w1 (aX w3 ⟨w.heap.size+1,68,af⟩ GK):=(g3.z fun q e=>.inl<|.inl e).t fs fun q e=>.inl<|.inr e;refine(hl.stay g4 fun q hq hf=>?_).base (by have:=h.fr.size;omega);have hqX:X.heap.size<=q:=by
    rcases hf with e|e|e
    ·omega
    ·omega
    ·simp[Value.ownBlock]at e
   rcases hq with hq|hq
   ·have:=(h.ku.lt q hq).2;omega
   ·omega
 ·intro p hp;rcases oN.1 hp with hp|hp
  ·exact h.new p hp
  ·simp only[oM]at hp;subst hp;exact⟨rfl,rfl⟩
 ·exact h.fr.t f4 (fun q hq=>.inr (by
   rcases hq with hq|hq
   ·exact(h.ku.lt q hq).1
   ·omega))
 ·have old:∀p∈pl,∀k,CW p.lb p.bm p.v k->k<wr.heap.size:=fun p hp k hk=>by
   have hl:=h.dZ p hp;rcases hk with rfl|rfl|hk
   ·exact hl.lt
   ·exact hl.map.lt
   ·exact(hl.row.lt k hk).2
  have neu:∀k,CW (X.heap.size+1) X.heap.size (aN af 0 0) k->X.heap.size<=k:=fun k hk=>by
   rcases hk with rfl|rfl|hk
   ·omega
   ·exact dI _
   ·simp[Value.ownBlock]at hk
  intro i j p q zI hp hq k h1 h2;rcases WZ hp with⟨_,qV⟩|⟨hi,rfl⟩<;>rcases WZ hq with⟨_,qH⟩|⟨hj,rfl⟩
  ·exact h.ap i j p q zI qV qH k h1 h2
  ·have:=old p (gZ qV) k h1;have:=neu k h2;omega
  ·have:=old q (gZ qH) k h2;have:=neu k h1;omega
  ·omega
def aoP(w:ay){P Q T K:Int}(h:Good P Q T K):aW prog 31 #[jI P Q T K] w fun r w'=>∃xb pv pl,r=aV (dU #[ptr xb,ag ah 0])/\aH w' w.heap.size xb 0 (yY P Q T K pv pl).yX/\(∀p∈pl,p.s=rV/\p.out=false)/\jk pl/\Fr aS w w':=by
 unfold jI;obtain⟨i0,ed,iI,ig,jg⟩:=aFq (show(prog.info? 98).map (fun i=>(i.zero,i.size,i.bytes))=ae (ae<|iF #[az af,aF false],2,16)by kernel_rfl);have HG:aj (Good P Q T K):=h;have HP:aj (decide (1<=P/\P<=6)=true):=jY h.1;have HQ:aj (decide (1<=Q/\Q<=4)=true):=jY h.2.1;have HT:aj (decide (1<=T/\T<=50)=true):=jY h.2.2.1;have HK:aj (decide (1<=K/\K<=16)=true):=jY h.2.2.2;have wS:=h.2.1.1;have EY:=h.2.1.2;clear h;go_enter func31,ntmps31
 go_wp2_with (go_at_call 70;refine(aoN _ _ _).z ?_;(first|rw[HP.o]|rw[HQ.o]|rw[HT.o]|rw[HK.o]);rintro e w1 ⟨rfl,rfl⟩)
 go_loopw [32] (fun i w'=>∃k:Nat,(k:Int)<=Q/\i=ag ah k/\∃pv pl,RZ w w' P Q T K k pv pl) (fun i _=>(Q-eU i).toNat)
 case atStart=>
  refine⟨0,by omega,rfl,aN af 0 0,[],?_,rfl,aFm _ _ _ _,fun p hp=>by simp at hp,fun p hp=>by simp at hp,(dR.alloc _).alloc _,fun i j p q _ hp=>by simp at hp⟩
  exact Bz _<|by simp
 case round=>
  obtain⟨k,hk,rfl,pv,pl,hm⟩:=hrel
  have HM:aj (RZ w wr P Q T K k pv pl):=hm
  have c50:aB wr ⟨w.heap.size+1,68,af⟩=ae pv:=by rw[aQ hm.blk];rfl
  have cf:∀o,wr.frozen? ⟨w.heap.size+1,o,af⟩=false:=kK hm.blk
  have hx:=bn hm.blk
  have hlen:=hm.len
  obtain⟨pa,pc,rfl,_⟩:=oP hm.ku
  subst hlen
  clear hm
  by_cases aK:(pl.length:Int)<Q
  ·have NV:pl.length<4:=by omega
   have KO:Value.ownBlock (.slice pa pl.length pc)≠ae (w.heap.size+1):=WY HM.o.ku HM.o.blk<|by decide
   go_wp2_with fail
   go_region_law
    (first
      |(go_simp;go_at_call 71;refine(anM _).z ?_;rintro e w1 ⟨rfl,lH,bU⟩
        have L1:aj (fA w1 wr.drew.heap.size (wr.drew.heap.size+1) wr.drew.heap.size (aN af 0 0) 0 rV):=lH
        have F1:aj (Fr aS wr.drew w1):=bU
        have FW:aj (Fr aS wr w1):=(Fr.dr _).t bU dw
        have hwz:w.heap.size<=w1.heap.size:=fG HM.o.fr.size FW.o.size
        have q50:aB w1 ⟨w.heap.size+1,68,af⟩=ae (.slice pa pl.length pc):=(bU.cell (p:=⟨w.heap.size+1,68,af⟩) hx id).t c50
        have qf:∀o,w1.frozen? ⟨w.heap.size+1,o,af⟩=false:=kK<|(bU.block _ hx id).t HM.o.blk
        have iJ:w.heap.size+1<w1.heap.size:=gu hx bU.size
        clear lH bU)
      |(refine aFH _ (by rfl) _ _ _ (by rfl) w.heap.size 98 i0 _ 2 16 underlying106 ed iI ig jg rfl (by omega) (.slice pa pl.length pc) pl.length (qj pl) (by rfl) ((FW.o.alloc _).ownsRow HM.o.ku fun _ _=>id) ⟨w1.heap.size,0,af⟩ 1 1 [az<|ae ⟨wr.heap.size+1,0,af⟩,aF false] (by rfl) (by rfl) (aFk (cs:=#[az<|ae ⟨wr.heap.size+1,0,af⟩,aF false]) (t:=98) (fr:=(0,0))<|aFb _ _) (by simp[Value.oneCell']) (by omega) (by simp only[eP];omega) (by omega) (by simp<;>omega) (w1.heap.size+1) (by simp) ?_;intro gg cap w3 jf qG fC uQ;have r50:=(qG.cell_far ⟨w.heap.size+1,68,af⟩ (by simp<;>omega)<|Ne.s KO);have rf:=(qG.frozen_far ⟨w.heap.size+1,68,af⟩ (by simp<;>omega)<|Ne.s KO);rw[aGA _ _ _ iJ,q50]at r50;rw[LI iJ,qf]at rf))
   all_goals
    go_wp2
    go_roundw
    case rel=>
     refine⟨pl.length+1,by omega,by go_num,_,_,HM.o.step (X:=wr.drew) (W:=w1.alloc<|aG #[az<|ae ⟨wr.heap.size+1,0,af⟩,aF false] 98) (Fr.dr _) L1.o F1.o (bQ _) qG jf ?_⟩
     intro q hq
     simp only[Value.ownBlock,gU]at hq
     subst hq
     rcases fC with a|a
     ·exact .inl a
     ·exact .inr (by have:=FW.o.size;omega)
    case measure=>simp[eU]<;>omega
  ·have hlQ:(pl.length:Int)=Q:=by omega
   have HH:aj (aH wr w.heap.size (w.heap.size+1) 0<|yY P Q T K (.slice pa pl.length pc) pl):=⟨HM.o.blk,aFm _ _ _ _,HM.o.ku,aFm _ _ _ _,HM.o.dZ,by omega,HG.o.1,⟨hlQ.s,HG.o.2.1⟩,rfl⟩
   go_wp2_with (go_at_call 68;refine(aoL HH.o rfl).z ?_;rintro e w2 ⟨rfl,hr,hf⟩;have HR:aj (aH w2 w.heap.size (w.heap.size+1) 0 (yY P Q T K (.slice pa pl.length pc) pl).yX):=hr;have HF:aj (Fr (fun k=>k=w.heap.size+1) wr w2):=hf;clear hr hf)
   go_ret2
   exact⟨_,_,_,rfl,HR.o,HM.o.new,HM.o.ap,HM.o.fr.t HF.o fun q hq=>.inr<|by omega⟩
structure St where
 e:Int
 t:Int
 s:Int
 ps:List Int
def St.step(p:Int)(x:St)(r:Rc):St:=
 if r.p≠p then x else if r.k=1 then{x with e:=r.m}else if r.k=2 then⟨x.e,r.m,1,(if x.s=0 then[]else x.ps)++[r.a]⟩else if r.k=3 then{x with s:=3-r.a}else if r.k=4 then{x with s:=0}else x
def Ec:St:=⟨0,0,0,[]⟩
def bI(L:List Rc)(p:Int):St:=L.foldl (St.step p) Ec
def yZ(L:List Rc)(r:Rc)(p:Int):bI (L++[r]) p=(bI L p).step p r:=by simp[bI,WO]
def agH:∀(l:List Rc) (k:Nat) (e:Rc) (j:Nat),l[k]? =ae e->j<4->(l.flatMap Rc.cs)[k*4+j]? =e.cs[j]?
 |[],k,e,j,h,_=>by simp at h
 |x::r,0,e,j,h,hj=>by
  simp only[yV,gU]at h;subst h;simp only[pF];rw[vg (by simp[Rc.cs]<;>omega)];simp
 |x::r,k+1,e,j,h,hj=>by
  simp only[Bi]at h;have:=agH r k e j h hj;simp only[pF]at this⊢
  rw[yj (by simp[Rc.cs]<;>omega),<-this];congr 1;simp[Rc.cs]<;>omega
def kL(m:Nat):Nat->List UInt8
 |0=>[]
 |k+1=>kL (m/256) k++[UInt8.ofNat<|m%256]
def Si(m k:Nat):(kL m k).length=k:=by
 induction k generalizing m with
 |zero=>rfl
 |succ k ih=>simp[kL,ih]
def CX(x:Int×Int)(b:UInt8):Int×Int:=((x.1+b.toNat)%65521,(x.2+(x.1+b.toNat)%65521)%65521)
def qN(l:List UInt8):Int×Int:=l.foldl CX (1,0)
def aoU(l:List UInt8)(b:UInt8):qN (l++[b])=CX (qN l) b:=by simp[qN,WO]
def Sj(l:List UInt8):0<=(qN l).1/\(qN l).1<65521/\0<=(qN l).2/\(qN l).2<65521:=by
 have key:∀(l:List UInt8) (x:Int×Int),(0<=x.1/\x.1<65521/\0<=x.2/\x.2<65521)->(0<=(l.foldl CX x).1/\(l.foldl CX x).1<65521/\0<=(l.foldl CX x).2/\(l.foldl CX x).2<65521):=by
  intro l;induction l with
  |nil=>intro x h;exact h
  |cons b l ih=>intro x h;exact ih _ ⟨by simp only[CX];omega,by simp only[CX];omega,by simp only[CX];omega,by simp only[CX];omega⟩
 exact key l (1,0)<|by simp
def kM(r:Rc):List UInt8:=kL r.k.toNat 1++kL r.p.toNat 1++kL r.a.toNat 1++kL 0 1++kL r.m.toNat 8
def fB(r:Rc):List UInt8:=kM r++kL ((qN<|kM r).2*65536+(qN<|kM r).1).toNat 4
def O4(r:Rc):(kM r).length=12:=by simp[kM,Si]
def FI(r:Rc):(fB r).length=16:=by simp[fB,O4,Si]
def wrap_i64{n:Int}(h0:0<=n)(hm:n<9223372036854775808):eF ah n=n:=by
 simp only[IntKind.wrap,IntKind.bits,IntKind.signed];simp<;>omega
def Du.stays(p q:Int)(d:Du):Bool:=decide (d.p≠p)||(decide (0<=q)&&decide (d.q≠q))
def O6(p t:Int)(ps:List Int)(k:Nat):List Du:=((List.range k).filter fun(i:Nat)=>decide<|(i:Int)∈ps).map fun(i:Nat)=>⟨p,(i:Int),t+1,1⟩
section
structure Next(P Q:Int)(L:List Rc)(r:Rc):Prop where
 p0:0<=r.p
 p1:r.p<P
 kind:(r.k=1/\r.a=0/\r.m=(bI L r.p).e+1)\/(r.k=2/\(0<=r.a/\r.a<Q)/\(((bI L r.p).s=0/\r.m=(bI L r.p).t+1)\/((bI L r.p).s=1/\r.m=(bI L r.p).t/\r.a∉(bI L r.p).ps)))\/
  (r.k=3/\(r.a=0\/r.a=1)/\(bI L r.p).s=1/\r.m=(bI L r.p).t)\/(r.k=4/\r.a=0/\2<=(bI L r.p).s/\r.m=(bI L r.p).t)
inductive Valid(P Q:Int):List Rc->Prop
 |nil:Valid P Q []
 |snoc {L:List Rc} {r:Rc}:Valid P Q L->Next P Q L r->Valid P Q (L++[r])
structure St.Ed(Q:Int)(n:Nat)(x:St):Prop where
 e0:0<=x.e
 e1:x.e<=n
 t0:0<=x.t
 t1:x.t<=n
 s0:0<=x.s
 s1:x.s<=3
 ps:∀q∈x.ps,0<=q/\q<Q
 nd:x.ps.Nodup
section
variable{P Q:Int}{L:List Rc}{r:Rc}
def St.Hz{p:Int}(x:St)(h:r.p≠p):x.step p r=x:=by simp[St.step,h]
def Valid.rW(h:Valid P Q L):∀p,(bI L p).Ed Q L.length:=by
 induction h with
 |nil=>intro p;exact⟨by simp[bI,Ec],by simp[bI,Ec],by simp[bI,Ec],by simp[bI,Ec],by simp[bI,Ec],by simp[bI,Ec],by simp[bI,Ec],by simp[bI,Ec]⟩
 | @snoc L r _ hn ih=>
   intro p;rw[yZ];have f:=ih p;by_cases hp:r.p=p
   ·subst hp;have e1:=f.e1;have t1:=f.t1;have e0:=f.e0;have t0:=f.t0;rcases hn.kind with⟨h1,h2,h3⟩|⟨h1,h2,h3⟩|⟨h1,h2,h3,h4⟩|⟨h1,h2,h3,h4⟩
    ·have:(bI L r.p).step r.p r={bI L r.p with e:=r.m}:=by simp[St.step,h1]
     rw[this];exact⟨by simp only;omega,by simp only[iW,Fq];omega,f.t0,by simp only[iW,Fq];omega,f.s0,f.s1,f.ps,f.nd⟩
    ·have:(bI L r.p).step r.p r=⟨(bI L r.p).e,r.m,1,(if(bI L r.p).s=0 then[]else(bI L r.p).ps)++[r.a]⟩:=by simp[St.step,h1]
     rw[this];refine⟨f.e0,by simp only[iW,Fq];omega,?_,?_,by simp only;omega,by simp only;omega,?_,?_⟩
     ·simp only;rcases h3 with⟨_,h3⟩|⟨_,h3,_⟩<;>omega
     ·simp only[iW,Fq];rcases h3 with⟨_,h3⟩|⟨_,h3,_⟩<;>omega
     ·intro q hq;rcases oN.1 hq with hq|hq
      ·split at hq
       ·simp at hq
       ·exact f.ps q hq
      ·rw[oM.1 hq];exact h2
     ·rcases h3 with⟨h3,_⟩|⟨h3,_,h4⟩
      ·simp[h3]
      ·simp only[h3];rw[if_neg<|by decide];rw[List.nodup_append];exact⟨f.nd,by simp,fun a ha b hb=>by rw[oM.1 hb];intro e;subst e;exact h4 ha⟩
    ·have:(bI L r.p).step r.p r={bI L r.p with s:=3-r.a}:=by simp[St.step,h1]
     rw[this];exact⟨f.e0,by simp only[iW,Fq];omega,f.t0,by simp only[iW,Fq];omega,by simp only;omega,by simp only;omega,f.ps,f.nd⟩
    ·have:(bI L r.p).step r.p r={bI L r.p with s:=0}:=by simp[St.step,h1]
     rw[this];exact⟨f.e0,by simp only[iW,Fq];omega,f.t0,by simp only[iW,Fq];omega,by simp,by simp,f.ps,f.nd⟩
   ·rw[St.Hz _ hp];have e1:=f.e1;have t1:=f.t1;exact⟨f.e0,by simp only[iW,Fq];omega,f.t0,by simp only[iW,Fq];omega,f.s0,f.s1,f.ps,f.nd⟩
structure Rc.Small(r:Rc)(n:Nat):Prop where
 k0:1<=r.k
 k1:r.k<=4
 p0:0<=r.p
 p1:r.p<6
 a0:0<=r.a
 a1:r.a<4
 m0:0<=r.m
 m1:r.m<=n+1
def Next.small(hn:Next P Q L r)(hv:Valid P Q L)(hP:P<=6)(hQ:Q<=4):r.Small L.length:=by
 have f:=hv.rW r.p;have a1:=f.e0;have a2:=f.e1;have a3:=f.t0;have a4:=f.t1;have b1:=hn.p0;have b2:=hn.p1;rcases hn.kind with⟨h1,h2,h3⟩|⟨h1,h2,h3⟩|⟨h1,h2,h3,h4⟩|⟨h1,h2,h3,h4⟩
 ·exact⟨by omega,by omega,by omega,by omega,by omega,by omega,by omega,by omega⟩
 ·refine⟨by omega,by omega,by omega,by omega,by omega,by omega,?_,?_⟩<;>(rcases h3 with⟨_,h3⟩|⟨_,h3,_⟩<;>omega)
 ·exact⟨by omega,by omega,by omega,by omega,by omega,by omega,by omega,by omega⟩
 ·exact⟨by omega,by omega,by omega,by omega,by omega,by omega,by omega,by omega⟩
def Valid.small(hv:Valid P Q L)(hP:P<=6)(hQ:Q<=4):∀r∈L,r.Small L.length:=by
 induction hv with
 |nil=>intro r hr;simp at hr
 | @snoc L r hv hn ih=>
   intro x hx;have key:x.Small L.length:=by
    rcases oN.1 hx with hx|hx
    ·exact ih x hx
    ·rw[oM.1 hx];exact hn.small hv hP hQ
   have:=key.m1;exact⟨key.k0,key.k1,key.p0,key.p1,key.a0,key.a1,key.m0,by simp only[iW,Fq];omega⟩
end
def PS.tie(x:PS)(q v:Int):PS:=if q=0 then{x with a:=v}else if q=1 then{x with b:=v}else if q=2 then{x with c:=v}else{x with d:=v}
def nN(v:Int):Int:=if 1<=v then 2 else v
def PS.dA(x:PS)(r:Rc):PS:=
 if r.k=1 then{x with e:=r.m}
 else if r.k=2 then({x with s:=1,t:=r.m}:PS).tie r.a 1
 else if r.k=3 then{x with s:=if r.a=1 then 2 else 3,a:=nN x.a,b:=nN x.b,c:=nN x.c,d:=nN x.d,wa:=1,ga:=1}
 else⟨x.e,x.t,0,0,0,0,0,0,0,0⟩
def kz(ps:List PS)(r:Rc):List PS:=ps.set r.p.toNat<|(ps.getD r.p.toNat ql).dA r
def replay(L:List Rc):List PS:=L.foldl kz xm
def agJ(L:List Rc)(r:Rc):replay (L++[r])=kz (replay L) r:=by simp[replay,WO]
def W9(L:List Rc):(replay L).length=6:=by
 suffices h:∀(L:List Rc) (ps:List PS),ps.length=6->(L.foldl kz ps).length=6 from h L xm rfl
 intro L;induction L with
 |nil=>intro ps h;exact h
 |cons r L ih=>intro ps h;exact ih _<|by simp[kz,h]
structure yz(z:St)(D:List Du)(tm hi i:Int)(x:PS):Prop where
 e:x.e=z.e
 t:x.t=z.t
 s:x.s=z.s
 none:x.s=0->x.a=0/\x.b=0/\x.c=0/\x.d=0
 some:x.s≠0->∀q:Nat,q<4->(1<=x.bG.getD q 0↔(q:Int)∈z.ps)
 fM:∀q:Nat,0<=x.bG.getD q 0/\x.bG.getD q 0<=2/\(x.s<=1->x.bG.getD q 0<=1)
 due:D.filter (fun d=>decide<|d.p=i)=(bZ x.bG 2 4).map fun q=>⟨i,q,tm+x.wa,x.ga⟩
 si:x.s=1->x.si=tm-hi
def Sl(p:PS)(q:Nat)(hq:q<4):p.bG.getD q 0=if q=0 then p.a else if q=1 then p.b else if q=2 then p.c else p.d:=by
 match q,hq with
 |0,_|1,_|2,_|3,_=>rfl
def Sm(p:PS)(q:Nat)(hq:4<=q):p.bG.getD q 0=0:=by
 match q,hq with
 |q+4,_=>simp[PS.bG]
def abk{ts:List Int}{l:Int}(k:Nat)(h:∀q:Nat,ts.getD q 0<l):bZ ts l k=[]:=by
 unfold bZ;rw[List.map_eq_nil_iff,afL];intro q _;have:=h q;simp only[WN];omega
def H6(x:PS)(q:Int)(v:Int)(h0:0<=q)(h4:q<4)(j:Nat):(x.tie q v).bG.getD j 0=if(j:Int)=q then v else x.bG.getD j 0:=by
 by_cases hj:j<4
 ·have hq:q=0\/q=1\/q=2\/q=3:=by omega
  have DJ:j=0\/j=1\/j=2\/j=3:=by omega
  rcases hq with rfl|rfl|rfl|rfl<;>rcases DJ with rfl|rfl|rfl|rfl<;>rfl
 ·rw[Sm _ _<|by omega,Sm _ _<|by omega,if_neg<|by omega]
def H7(x:PS)(q v:Int):(x.tie q v).e=x.e/\(x.tie q v).t=x.t/\(x.tie q v).s=x.s/\(x.tie q v).si=x.si/\(x.tie q v).wa=x.wa/\(x.tie q v).ga=x.ga:=by
 unfold PS.tie;split
 ·simp
 ·split
  ·simp
  ·split<;>simp
section
variable{z:St}{D:List Du}{tm hi i:Int}{x:PS}{r:Rc}
def yz.aoW(h:yz z D tm hi i x)(hp:r.p=i)(hk:r.k=1):yz (z.step i r) D tm hi i (x.dA r):=by
 have e1:z.step i r={z with e:=r.m}:=by simp[St.step,hp,hk]
 have e2:x.dA r={x with e:=r.m}:=by simp[PS.dA,hk]
 rw[e1,e2];exact⟨rfl,h.t,h.s,h.none,h.some,h.fM,h.due,h.si⟩
def filter_none(h:x.s<=1)(hp:yz z D tm hi i x):D.filter (fun d=>decide<|d.p=i)=[]:=by
 rw[hp.due,abk 4 (fun q=>by have:=(hp.fM q).2.2 h;omega)];rfl
def yz.add(h:yz z D tm hi i x)(hp:r.p=i)(hk:r.k=2)(ha:0<=r.a/\r.a<4)(hs:z.s=0\/z.s=1)(si':Int)(ZO:si'=tm-hi):yz (z.step i r) D tm hi i {x.dA r with si:=si'}:=by
 have e1:z.step i r=⟨z.e,r.m,1,(if z.s=0 then[]else z.ps)++[r.a]⟩:=by simp[St.step,hp,hk]
 have e2:x.dA r=({x with s:=1,t:=r.m}:PS).tie r.a 1:=by simp[PS.dA,hk]
 have key:∀j:Nat,(({x.dA r with si:=si'}:PS).bG.getD j 0)=if(j:Int)=r.a then 1 else x.bG.getD j 0:=fun j=>by
  rw[e2];exact H6 _ r.a 1 ha.1 ha.2 j
 obtain⟨r1,r2,r3,r4,r5,r6⟩:=H7 ({x with s:=1,t:=r.m}:PS) r.a 1;rw[<-e2]at r1 r2 r3 r4 r5 r6;have Cb:x.s<=1:=by have:=h.s;omega
 rw[e1];refine⟨r1.t h.e,r2,r3,fun e=>?_,fun _ q hq=>?_,fun q=>?_,?_,fun _=>ZO⟩
 ·have:(x.dA r).s=1:=r3;simp only at e;omega
 ·rw[key q];simp only[oN,oM];by_cases EZ:(q:Int)=r.a
  ·rw[if_pos EZ];simp[EZ]
  ·rw[if_neg EZ];rcases hs with hs|hs
   ·have hz:=h.none<|h.s.t hs;rw[if_pos hs];have:x.bG.getD q 0=0:=by
     rw[Sl x q hq];simp only[hz];split<;>(try split)<;>(try split)<;>rfl
    rw[this];simp[EZ]
   ·rw[if_neg<|by omega,h.some (by have:=h.s;omega) q hq];simp[EZ]
 ·rw[key q];have f1:=(h.fM q).1;have f2:=(h.fM q).2.2 Cb;split<;>refine⟨by omega,by omega,fun _=>by omega⟩
 ·rw[filter_none Cb h,abk 4 (fun q=>by rw[key q];have f2:=(h.fM q).2.2 Cb;split<;>omega)];rfl
def Sr(hk:r.k=3)(j:Nat):(x.dA r).bG.getD j 0=nN (x.bG.getD j 0):=by
 have e2:x.dA r={x with s:=if r.a=1 then 2 else 3,a:=nN x.a,b:=nN x.b,c:=nN x.c,d:=nN x.d,wa:=1,ga:=1}:=by simp[PS.dA,hk]
 by_cases hj:j<4
 ·have DJ:j=0\/j=1\/j=2\/j=3:=by omega
  rw[e2];rcases DJ with rfl|rfl|rfl|rfl<;>rfl
 ·rw[Sm _ _<|by omega,Sm _ _<|by omega];rfl
def aoX(D:List Du)(i:Int):(D.filter<|Du.stays i<|-1).filter (fun d=>decide<|d.p=i)=[]:=by
 rw[afL];intro d hd;have:=(Hq.1 hd).2;simp[Du.stays]at this;simpa using this
def aoY(p t:Int)(ps:List Int)(k:Nat):(O6 p t ps k).filter (fun d=>decide<|d.p=p)=O6 p t ps k:=by
 rw[List.filter_eq_self];intro d hd;simp only[O6,Hr]at hd;obtain⟨q,_,rfl⟩:=hd;simp
def aoZ{ps:List Int}{ts:List Int}{k:Nat}(hk:k<=4)(hq:∀q∈ps,0<=q/\q<(k:Int))(h:∀q:Nat,q<4->(2<=ts.getD q 0↔(q:Int)∈ps))(p t:Int):
 O6 p t ps k=(bZ ts 2 4).map fun q=>⟨p,q,t+1,1⟩:=by
 have e1:bZ ts 2 4=((List.range k).filter fun i=>decide<|2<=ts.getD i 0).map Int.ofNat:=by
  unfold bZ;congr 1;have:List.range 4=List.range k++(List.range<|4-k).map (k+ ·):=by
   rw[<-List.range_add];congr 1;omega
  rw[this,tu];have h2:((List.range<|4-k).map (k+ ·)).filter (fun i=>decide<|2<=ts.getD i 0)=[]:=by
   rw[afL];intro q EY;simp only[Hr,Jw]at EY;obtain⟨j,hj,rfl⟩:=EY;simp only[WN];rw[h (k+j)<|by omega];intro hm;have:=(hq _ hm).2;omega
  rw[h2,qM]
 rw[e1];unfold O6;rw[List.map_map];have e2:(List.range k).filter (fun(i:Nat)=>decide<|(i:Int)∈ps)=(List.range k).filter fun i=>decide (2<=ts.getD i 0):=by
  apply OL;intro q EY;have:=h q (by have:=Jw.1 EY;omega);simp only[decide_eq_decide];exact this.s
 rw[e2];rfl
def yz.end_(h:yz z D tm hi i x)(hp:r.p=i)(hk:r.k=3)(ha:r.a=0\/r.a=1)(hs:z.s=1){Q:Nat}(hQ:Q<=4)(gY:∀q∈z.ps,0<=q/\q<(Q:Int)):
 yz (z.step i r) (D.filter (Du.stays i<|-1)++O6 i tm (z.step i r).ps Q) tm hi i (x.dA r):=by
 have e1:z.step i r={z with s:=3-r.a}:=by simp[St.step,hp,hk]
 have e2:x.dA r={x with s:=if r.a=1 then 2 else 3,a:=nN x.a,b:=nN x.b,c:=nN x.c,d:=nN x.d,wa:=1,ga:=1}:=by simp[PS.dA,hk]
 have zJ:(x.dA r).s=3-r.a:=by
  rw[e2];rcases ha with ha|ha<;>simp[ha]
 have JD:(x.dA r).wa=1/\(x.dA r).ga=1:=by rw[e2];exact⟨rfl,rfl⟩
 have iJ:x.s≠0:=by have:=h.s;omega
 have ET:∀q:Nat,(2<=(x.dA r).bG.getD q 0↔1<=x.bG.getD q 0):=fun q=>by
  rw[Sr hk];unfold nN;have f2:=(h.fM q).2.2 (by have:=h.s;omega);split<;>omega
 rw[e1];refine⟨by rw[e2];exact h.e,by rw[e2];exact h.t,zJ,fun e=>by omega,fun _ q hq=>?_,fun q=>?_,?_,fun e=>by omega⟩
 ·rw[<-h.some iJ q hq,<-ET q,Sr hk];unfold nN;split<;>omega
 ·rw[Sr hk];have f1:=(h.fM q).1;have f2:=(h.fM q).2.1;unfold nN;refine⟨by split<;>omega,by split<;>omega,fun e=>by omega⟩
 ·rw[tu,aoX,aoY,wY,aoZ hQ gY fun q hq=>(ET q).t<|h.some iJ q hq,JD.1,JD.2]
def yz.done{D':List Du}(h:yz z D tm hi i x)(hp:r.p=i)(hk:r.k=4)(hD:D'.filter (fun d=>decide<|d.p=i)=[]):yz (z.step i r) D' tm hi i (x.dA r):=by
 have e1:z.step i r={z with s:=0}:=by simp[St.step,hp,hk]
 have e2:x.dA r=⟨x.e,x.t,0,0,0,0,0,0,0,0⟩:=by simp[PS.dA,hk]
 have hz:∀q:Nat,(⟨x.e,x.t,0,0,0,0,0,0,0,0⟩:PS).bG.getD q 0=0:=fun q=>by
  match q with
  |0|1|2|3=>rfl
  |q+4=>simp[PS.bG]
 rw[e1,e2];refine⟨h.e,h.t,rfl,fun _=>⟨rfl,rfl,rfl,rfl⟩,fun e=>absurd rfl e,fun q=>by rw[hz q];exact⟨by omega,by omega,fun _=>by omega⟩,?_,fun e=>by simp at e⟩;rw[hD,abk 4 (fun q=>by rw[hz q];omega)];rfl
end
structure Su(z:St)(x:PS):Prop where
 e:x.e=z.e
 t:x.t=z.t
 s:x.s=z.s
 none:x.s=0->x.a=0/\x.b=0/\x.c=0/\x.d=0
 one:x.s=1->∀q:Nat,q<4->x.bG.getD q 0=if(q:Int)∈z.ps then 1 else 0
 two:2<=x.s->(∀q:Nat,q<4->x.bG.getD q 0=if(q:Int)∈z.ps then 2 else 0)/\x.wa=1/\x.ga=1
 si:x.si=0
def Su.step{P Q:Int}{L:List Rc}{r:Rc}{x:PS}(hn:Next P Q L r)(hQ:Q<=4)(h:Su (bI L r.p) x):Su (bI (L++[r]) r.p) (x.dA r):=by
 rw[yZ];have hnk:=hn.kind;generalize bI L r.p=z at h hnk⊢
 rcases hnk with⟨h1,h2,h3⟩|⟨h1,h2,h3⟩|⟨h1,h2,h3,h4⟩|⟨h1,h2,h3,h4⟩
 ·have e1:z.step r.p r={z with e:=r.m}:=by simp[St.step,h1]
  have e2:x.dA r={x with e:=r.m}:=by simp[PS.dA,h1]
  rw[e1,e2];exact⟨rfl,h.t,h.s,h.none,h.one,h.two,h.si⟩
 ·have e1:z.step r.p r=⟨z.e,r.m,1,(if z.s=0 then[]else z.ps)++[r.a]⟩:=by simp[St.step,h1]
  have e2:x.dA r=({x with s:=1,t:=r.m}:PS).tie r.a 1:=by simp[PS.dA,h1]
  have key:∀j:Nat,(x.dA r).bG.getD j 0=if(j:Int)=r.a then 1 else x.bG.getD j 0:=fun j=>by
   rw[e2];exact H6 _ r.a 1 h2.1 (by omega) j
  obtain⟨r1,r2,r3,r4,r5,r6⟩:=H7 ({x with s:=1,t:=r.m}:PS) r.a 1;rw[<-e2]at r1 r2 r3 r4 r5 r6;rw[e1];refine⟨r1.t h.e,r2,r3,fun e=>by rw[r3]at e;simp at e,fun _ q hq=>?_,fun e=>by rw[r3]at e;simp at e,r4.t h.si⟩;rw[key q];simp only[oN,oM];by_cases EZ:(q:Int)=r.a
  ·rw[if_pos EZ,if_pos<|.inr EZ]
  ·rw[if_neg EZ];rcases h3 with⟨h3,_⟩|⟨h3,_,_⟩
   ·have hz:=h.none<|h.s.t h3;rw[if_pos h3,if_neg<|by simp[EZ],Sl x q hq];simp only[hz];split<;>(try split)<;>(try split)<;>rfl
   ·rw[h.one (h.s.t h3) q hq,if_neg<|show¬z.s=0 by omega];simp[EZ]
 ·have e1:z.step r.p r={z with s:=3-r.a}:=by simp[St.step,h1]
  have e2:x.dA r={x with s:=if r.a=1 then 2 else 3,a:=nN x.a,b:=nN x.b,c:=nN x.c,d:=nN x.d,wa:=1,ga:=1}:=by simp[PS.dA,h1]
  have zJ:(x.dA r).s=3-r.a:=by
   rw[e2];rcases h2 with h2|h2<;>simp[h2]
  rw[e1];refine⟨by rw[e2];exact h.e,by rw[e2];exact h.t,zJ,fun e=>by omega,fun e=>by omega,fun _=>⟨fun q hq=>?_,by rw[e2],by rw[e2]⟩,by rw[e2];exact h.si⟩;rw[Sr h1,h.one (h.s.t h3) q hq];unfold nN;split<;>rfl
 ·have e1:z.step r.p r={z with s:=0}:=by simp[St.step,h1]
  have e2:x.dA r=⟨x.e,x.t,0,0,0,0,0,0,0,0⟩:=by simp[PS.dA,h1]
  rw[e1,e2];exact⟨h.e,h.t,rfl,fun _=>⟨rfl,rfl,rfl,rfl⟩,fun e=>by simp at e,fun e=>by simp at e,rfl⟩
def Valid.replay{P Q:Int}{L:List Rc}(hv:Valid P Q L)(hQ:Q<=4):∀i:Nat,i<6->∃x,(replay L)[i]? =ae x/\Su (bI L i) x:=by
 induction hv with
 |nil=>
  intro i hi;have hz:Su Ec ql:=⟨rfl,rfl,rfl,fun _=>⟨rfl,rfl,rfl,rfl⟩,fun e=>by simp[ql]at e,fun e=>by simp[ql]at e,rfl⟩;match i,hi with
  |0,_|1,_|2,_|3,_|4,_|5,_=>exact⟨ql,rfl,hz⟩
 | @snoc L r hv hn ih=>
   intro i hi;rw[agJ];have xU:=hn.p0;have uT:=hn.p1;by_cases e:r.p=i
   ·obtain⟨x,hx,hr⟩:=ih i hi;have en:r.p.toNat=i:=by omega
    refine⟨x.dA r,?_,?_⟩
    ·unfold kz;rw[en,nJ (by rw[W9];exact hi)];simp[List.getD,hx]
    ·rw[<-e]at hr⊢
     exact hr.step hn hQ
   ·obtain⟨x,hx,hr⟩:=ih i hi;refine⟨x,?_,?_⟩
    ·unfold kz;rw[vZ<|by omega];exact hx
    ·rw[yZ,St.Hz _ e];exact hr
end
section
def HS.eH(h:HS)(i:Nat)(x:PS):HS:={h with ps:=h.ps.set i x}
def agK:∀(l:List PS) (i j:Nat) (x x':PS) (v:aA),l[i]? =ae x->j<10->x'.cs=x.cs.set j v->(l.flatMap PS.cs).set (i*10+j) v=(l.set i x').flatMap PS.cs
 |[],i,j,x,x',v,h,_,_=>by simp at h
 |y::r,0,j,x,x',v,h,hj,hx=>by
  simp only[yV,gU]at h;subst h;simp only[pF,List.set_cons_zero,Nat.zero_mul,D9];rw[List.set_append_left _ _ (by simp[PS.cs]<;>omega),hx]
 |y::r,i+1,j,x,x',v,h,hj,hx=>by
  simp only[Bi]at h;have:=agK r i j x x' v h hj hx;simp only[pF,List.set_cons_succ];rw[afN _ _ (by simp[PS.cs]<;>omega),<-this];congr 2;simp[PS.cs]<;>omega
variable{i q:Nat}{x x':PS}
def HS.ao0{h:HS}{j:Nat}{v:aA}(hx:h.ps[i]? =ae x)(hj:j<10)(hv:x'.cs=x.cs.set j v):h.cells.toArray.setIfInBounds (6+i*10+j) v=(h.eH i x').cells.toArray:=by
 have hk:=(dS.1 hx).1;rw[List.setIfInBounds_toArray];congr 1;unfold HS.cells HS.eH;simp only;rw[afN _ _ (by simp<;>omega),List.set_append_left _ _ (by rw[WW];simp only[oH,wu];omega),<-agK h.ps i j x x' v hx hj hv];congr 3;simp<;>omega
def uA{h:HS}(hx:h.ps[i]? =ae x):(h.eH i x').ps[i]? =ae x':=by
 have hk:=(dS.1 hx).1;simp[HS.eH,hk]
def LY(x:PS)(hq:q<4):x.cs[3+q]? =ae (.int .i64<|x.bG.getD q 0):=by
 match q,hq with
 |0,_|1,_|2,_|3,_=>rfl
def Xa(x:PS)(hq:q<4)(v:Int):(x.tie q v).cs=x.cs.set (3+q) (ag ah v):=by
 match q,hq with
 |0,_|1,_|2,_|3,_=>rfl
def H9(h:HS)(i:Nat)(x x':PS):(h.eH i x).eH i x'=h.eH i x':=by simp[HS.eH]
variable{w w':ay}{B xb n:Nat}{h:HS}
def aH.setCell(hh:aH w B xb n h){i j:Nat}{x:PS}(x':PS){v:aA}(hx:h.ps[i]? =ae x)(hj:j<10)(hv:x'.cs=x.cs.set j v):aH (aX w ⟨xb,6+i*10+j,af⟩ v) B xb n (h.eH i x')/\Fr (fun k=>k=xb) w (aX w ⟨xb,6+i*10+j,af⟩ v):=by
 have f:Fr (fun k=>k=xb) w (aX w ⟨xb,6+i*10+j,af⟩ v):=(Fr.refl (fun k=>k=xb) w).setCell (p:=⟨xb,6+i*10+j,af⟩) (.inl rfl) v;refine⟨hh.put f ?_ rfl rfl rfl rfl rfl rfl rfl rfl<|by simp[HS.eH,hh.h6],f⟩;rw[kU hh.blk,HS.ao0 hx hj hv]
abbrev xn(w:ay)(b xb:Nat):Prop:=w.heap[b]? =ae (aG #[az<|ae ⟨xb,4,af⟩] 181 (0,0))
variable{i b:Nat}{x:PS}
def aH.cellP(hh:aH w B xb n h)(hx:h.ps[i]? =ae x):
 (aB w ⟨xb,6+i*10,af⟩=ae (ag ah x.e)/\aB w ⟨xb,6+i*10+1,af⟩=ae (ag ah x.t)/\aB w ⟨xb,6+i*10+2,af⟩=ae (ag ah x.s))/\(∀o,w.frozen? ⟨xb,o,af⟩=false):=
 ⟨⟨hh.jy hx 0 _ rfl,hh.jy hx 1 _ rfl,hh.jy hx 2 _ rfl⟩,kK hh.blk⟩
def agL(hh:aH w B xb n h)(hb:xn w b xb)(hi:i<6)(hx:h.ps[i]? =ae x)(k a m:Int):
 aW prog 179 #[iF #[ag ah k,ag ah i,ag ah a,ag ah m],az<|ae ⟨b,0,af⟩] w fun e w'=>e=aV (dU #[])/\aH w' B xb n (h.eH i {x with e:=m})/\Fr (fun k=>k=xb) w w':=by
 have HH:aj (aH w B xb n h):=hh;have HX:aj (h.ps[i]? =ae x):=hx;have k0:aB w ⟨b,0,af⟩=ae (az<|ae ⟨xb,4,af⟩):=by rw[aQ hb];rfl
 have E5:=bn hb;have iC:=bn hh.blk;obtain⟨⟨e0,e1,e2⟩,ef⟩:=hh.cellP hx;have ed:(0:Int)<=(i:Int):=by omega
 have lN:(i:Int)<6:=by omega
 clear hh hx hb;go_enter func179,ntmps179
 go_wp2_with fail
 go_region
 go_end0
 have hs:=HH.o.setCell {x with e:=m} (j:=0) (v:=ag ah m) HX.o (by omega) rfl;have fa:Fr aS (aX w ⟨xb,6+i*10,af⟩<|ag ah m) ((aX w ⟨xb,6+i*10,af⟩<|ag ah m).alloc<|aG #[ag ah k,ag ah i,ag ah a,ag ah m] 184).drew:=(bQ _).drew;exact⟨rfl,hs.1.a fa,hs.2.t fa dw⟩
def agM(hh:aH w B xb n h){q:Nat}(hb:xn w b xb)(hi:i<6)(hq:q<4)(hx:h.ps[i]? =ae x)(k m:Int):
 aW prog 180 #[iF #[ag ah k,ag ah i,ag ah q,ag ah m],az<|ae ⟨b,0,af⟩] w fun e w'=>e=aV (dU #[])/\aH w' B xb n (h.eH i<|({x with s:=1,t:=m}:PS).tie q 1)/\Fr (fun k=>k=xb) w w':=by
 have HH:aj (aH w B xb n h):=hh;have HX:aj (h.ps[i]? =ae x):=hx;have k0:aB w ⟨b,0,af⟩=ae (az<|ae ⟨xb,4,af⟩):=by rw[aQ hb];rfl
 have E5:=bn hb;have iC:=bn hh.blk;obtain⟨⟨e0,e1,e2⟩,ef⟩:=hh.cellP hx;have e3:aB w ⟨xb,6+i*10+3+q,af⟩=ae (.int .i64<|x.bG.getD q 0):=by
  match q,hq with
  |0,_=>exact hh.jy hx 3 _ rfl
  |1,_=>exact hh.jy hx 4 _ rfl
  |2,_=>exact hh.jy hx 5 _ rfl
  |3,_=>exact hh.jy hx 6 _ rfl
 have ed:(0:Int)<=(i:Int):=by omega
 have lN:(i:Int)<6:=by omega
 have sW:(0:Int)<=(q:Int):=by omega
 have wS:(q:Int)<4:=by omega
 clear hh hx hb;go_enter func180,ntmps180
 go_wp2_with fail
 go_region
 go_wp2_with fail
 go_region
 go_wp2_with fail
 go_region
 go_end0
 have s1:=HH.o.setCell {x with s:=1} (j:=2) (v:=ag ah 1) HX.o (by omega) rfl;have s2:=s1.1.setCell {x with s:=1,t:=m} (j:=1) (v:=ag ah m) (uA HX.o) (by omega) rfl;rw[H9]at s2;have s3:=s2.1.setCell (({x with s:=1,t:=m}:PS).tie q 1) (j:=3+q) (v:=ag ah 1) (uA HX.o) (by omega)<|Xa _ hq 1;rw[H9,<-Aa]at s3;refine⟨rfl,?_,?_⟩
 ·exact s3.1.a (((bQ _).drew).drew).drew
 ·exact((s1.2.t s2.2 fun _=>.inl).t s3.2 fun _=>.inl).t (((bQ _).drew).drew).drew dw
def agN:∀(l:List PS) (i:Nat) (x x':PS),l[i]? =ae x->∃u v,l.flatMap PS.cs=u++(x.cs++v)/\u.length=i*10/\(l.set i x').flatMap PS.cs=u++(x'.cs++v)
 |[],i,x,x',h=>by simp at h
 |y::r,0,x,x',h=>by
  simp only[yV,gU]at h;subst h;exact⟨[],r.flatMap PS.cs,by simp,by simp,by simp⟩
 |y::r,i+1,x,x',h=>by
  simp only[Bi]at h;obtain⟨u,v,h1,h2,h3⟩:=agN r i x x' h;exact⟨y.cs++u,v,by simp[h1],by simp[h2,PS.cs]<;>omega,by simp[h3]⟩
def agO:∀(vs us pre post:List aA),us.length=vs.length->O0 (pre++(us++post)).toArray pre.length vs=(pre++(vs++post)).toArray
 |[],us,pre,post,h=>by
  have:us=[]:=WI.1 h;subst this;rfl
 |v::vs,us,pre,post,h=>by
  match us,h with
  |u::us,h=>
   rw[O0,List.setIfInBounds_toArray];have e1:(pre++(u::us++post)).set pre.length v=(pre++[v])++(us++post):=by
    rw[afN _ _<|dI _];simp
   rw[e1];have:=agO vs us (pre++[v]) post (by simpa using h);rw[iW,Fq]at this;rw[this];simp
def HS.ao1{h:HS}(x':PS)(hx:h.ps[i]? =ae x):O0 h.cells.toArray (6+i*10) x'.cs=(h.eH i x').cells.toArray:=by
 obtain⟨u,v,h1,h2,h3⟩:=agN h.ps i x x' hx;unfold HS.eH HS.cells;simp only;rw[h1,h3];have:=agO x'.cs x.cs ([ag ah h.P,ag ah h.Q,ag ah h.T,ag ah h.K,h.jv,aF h.up]++u) (v++[aF h.br,ag ah h.kp,h.pv,h.fv]) rfl;rw[iW,h2]at this;simp only[CP,oH,wu]at this⊢
 exact this
def agP(hh:aH w B xb n h)(hb:xn w b xb)(hi:i<6)(hx:h.ps[i]? =ae x)(k a m:Int):
 aW prog 182 #[iF #[ag ah k,ag ah i,ag ah a,ag ah m],az<|ae ⟨b,0,af⟩] w fun e w'=>e=aV (dU #[])/\aH w' B xb n (h.eH i ⟨x.e,x.t,0,0,0,0,0,0,0,0⟩)/\Fr (fun k=>k=xb) w w':=by
 have HH:aj (aH w B xb n h):=hh;have HX:aj (h.ps[i]? =ae x):=hx;have k0:aB w ⟨b,0,af⟩=ae (az<|ae ⟨xb,4,af⟩):=by rw[aQ hb];rfl
 have E5:=bn hb;have iC:=bn hh.blk;obtain⟨⟨e0,e1,e2⟩,ef⟩:=hh.cellP hx;have e3:aB w ⟨xb,6+i*10+3,af⟩=ae (ag ah x.a):=hh.jy hx 3 _ rfl;have e4:aB w ⟨xb,6+i*10+4,af⟩=ae (ag ah x.b):=hh.jy hx 4 _ rfl;have e5:aB w ⟨xb,6+i*10+5,af⟩=ae (ag ah x.c):=hh.jy hx 5 _ rfl;have e6:aB w ⟨xb,6+i*10+6,af⟩=ae (ag ah x.d):=hh.jy hx 6 _ rfl;have e7:aB w ⟨xb,6+i*10+7,af⟩=ae (ag ah x.si):=hh.jy hx 7 _ rfl;have e8:aB w ⟨xb,6+i*10+8,af⟩=ae (ag ah x.wa):=hh.jy hx 8 _ rfl;have e9:aB w ⟨xb,6+i*10+9,af⟩=ae (ag ah x.ga):=hh.jy hx 9 _ rfl;have ed:(0:Int)<=(i:Int):=by omega
 have lN:(i:Int)<6:=by omega
 clear hh hx hb;go_enter func182,ntmps182
 go_wp2_with fail
 go_region
 go_wp2_with fail
 go_region
 go_end0
 have fs:Fr (fun k=>k=xb) w (w.setCells xb (6+i*10) (⟨x.e,x.t,0,0,0,0,0,0,0,0⟩:PS).cs):=Fr.setCells (S:=fun k=>k=xb) (.inl rfl) _ _ dR;have hs:aH (w.setCells xb (6+i*10) (⟨x.e,x.t,0,0,0,0,0,0,0,0⟩:PS).cs) B xb n (h.eH i ⟨x.e,x.t,0,0,0,0,0,0,0,0⟩):=by
  refine HH.o.put fs ?_ rfl rfl rfl rfl rfl rfl rfl rfl (by simp[HS.eH,HH.o.h6]);rw[<-HS.ao1 _ HX.o];exact JA _ _ HH.o.blk
 exact⟨rfl,hs.a<|((bQ _).drew).drew,fs.t (((bQ _).drew).drew) dw⟩
def agQ(ts:List Int)(l:Int):∀q∈bZ ts l 4,∃q':Nat,q=q'/\q'<4:=by
 intro q hq;simp only[bZ,Hr,Hq,Jw]at hq;obtain⟨q',⟨h1,_⟩,rfl⟩:=hq;exact⟨q',rfl,h1⟩
def JE{w:ay}{B:Nat}{ty:dJ}{wd:Nat}{v:aA}{n:Nat}{xs:List aA}(h:bD w B ty wd v n xs)(hn:0<n):∃g cap,v=aN (ae ⟨g,0,af⟩) n cap/\n<=cap:=by
 rcases h.2 with⟨_,h0⟩|⟨g,cap,cur,hv,hb,hg,h1,h2,_⟩
 ·omega
 ·exact⟨g,cap,hv,h1⟩
def PS.pend(x:PS):List Int->PS
 |[]=>x
 |q::r=>(x.tie q 2).pend r
def PS.agR(x:PS)(l:List Int)(q:Int):x.pend (l++[q])=(x.pend l).tie q 2:=by
 induction l generalizing x with
 |nil=>rfl
 |cons a r ih=>exact ih<|x.tie a 2
def abm(hh:aH w B xb n h)(hb:xn w b xb)(hi:i<6)(hx:h.ps[i]? =ae x)(k m:Int){c:Bool}{a s':Int}(ha:a=if c then 1 else 0)(uU:s'=if c then 2 else 3):
 aW prog 181 #[iF #[ag ah k,ag ah i,ag ah a,ag ah m],az<|ae ⟨b,0,af⟩] w fun e w'=>e=aV (dU #[])/\aH w' B xb n (h.eH i {({x with s:=s'}:PS).pend (bZ x.bG 1 4)with wa:=1,ga:=1})/\Fr (fun k=>k=xb) w w':=by
 have HH:aj (aH w B xb n h):=hh;have HX:aj (h.ps[i]? =ae x):=hx;have k0:aB w ⟨b,0,af⟩=ae (az<|ae ⟨xb,4,af⟩):=by rw[aQ hb];rfl
 have E5:=bn hb;have iC:=bn hh.blk;obtain⟨⟨e0,e1,e2⟩,ef⟩:=hh.cellP hx;have ed:(0:Int)<=(i:Int):=by omega
 have lN:(i:Int)<6:=by omega
 clear hh hx hb;cases c
 ·obtain rfl:a=0:=ha;obtain rfl:s'=3:=uU;go_enter func181,ntmps181
  go_wp2_with fail
  go_region
  go_wp2_with fail
  have hW:=(HH.o.setCell {x with s:=3} (j:=2) (v:=ag ah 3) HX.o (by omega) rfl);have fW:Fr aS (aX w ⟨xb,6+i*10+2,af⟩<|ag ah 3) ((aX w ⟨xb,6+i*10+2,af⟩<|ag ah 3).alloc<|aG #[ag ah k,ag ah i,ag ah 0,ag ah m] 184).drew:=(bQ _).drew;replace hW:=(⟨hW.1.a fW,hW.2.t fW dw⟩:aH _ B xb n (h.eH i {x with s:=3})/\Fr (fun k=>k=xb) w _);generalize((aX w ⟨xb,6+i*10+2,af⟩<|ag ah 3).alloc<|aG #[ag ah k,ag ah i,ag ah 0,ag ah m] 184).drew=W at hW⊢
  clear fW;have HW:aj (aH W B xb n<|h.eH i {x with s:=3}):=hW.1;have FW:aj (Fr (fun k=>k=xb) w W):=hW.2;have bx:xb<W.heap.size:=gu iC hW.2.size;have Jy:aj (∀j v,({x with s:=3}:PS).cs[j]? =ae v->aB W ⟨xb,6+i*10+j,af⟩=ae v):=fun j v hv=>hW.1.jy (uA HX.o) j v hv;clear hW e0 e1 e2 ef;refine(LW (p:={x with s:=3}) Jy.o 1).z ?_;rintro e w1 ⟨v,rfl,hv,hf⟩;have F1:aj (Fr aS W w1):=hf;obtain⟨S,hS⟩:∃S,bZ ({x with s:=3}:PS).bG 1 4=S:=⟨_,rfl⟩;have HS:aj (bZ x.bG 1 4=S):=hS;have Sv:aj (∀q∈S,∃q':Nat,q=q'/\q'<4):=by
   show∀q∈S,∃q':Nat,q=q'/\q'<4;rw[<-hS];exact agQ _ _
  rw[hS]at hv;have V1:aj (Bq W w1 v S):=hv;have H1:aj (aH w1 B xb n<|h.eH i {x with s:=3}):=HW.o.a hf;obtain⟨va,vc,rfl,DI⟩:=lI hv;have KN:S.length<=4:=by rw[<-hS];exact abf _ _ _
  clear hf hS hv DI;go_wp2_with fail
  go_loopw [24] (fun ii w'=>∃j:Nat,j<=S.length/\ii=ag ah j/\aH w' B xb n (h.eH i<|({x with s:=3}:PS).pend<|S.take j)/\Fr (fun k=>k=xb) w1 w') (fun ii _=>(S.length-eU ii).toNat)
  case atStart=>exact⟨0,by omega,rfl,H1.o,Fr.refl _ _⟩
  case round=>
   obtain⟨j,hj,rfl,fC,dP⟩:=hrel
   have HR:aj (aH wr B xb n<|h.eH i<|({x with s:=3}:PS).pend<|S.take j):=fC
   have FR:aj (Fr (fun k=>k=xb) w1 wr):=dP
   have rf:∀o,wr.frozen? ⟨xb,o,af⟩=false:=kK fC.blk
   by_cases aK:j<S.length
   ·obtain⟨q,hq⟩:∃q,S[j]? =ae q:=⟨_,eY aK⟩
    obtain⟨q',rfl,nT⟩:=Sv.o q<|gZ hq
    have HT:aj (({x with s:=3}:PS).pend (S.take<|j+1)=(({x with s:=3}:PS).pend<|S.take j).tie q' 2):=by
     show PS.pend _ _=_;rw[yu,hq,CO,PS.agR]
    have dG:=dP.ownsRow V1.o (fun k hk e=>by have:=(V1.o.lt k hk).1;omega)
    obtain⟨g,gc,xW,_⟩:=JE dG<|by omega
    simp only[aFi]at xW
    obtain⟨rfl,_,rfl⟩:=xW
    have cq:=Bo dG hq
    have e3:aB wr ⟨xb,6+i*10+3+q',af⟩=ae (.int .i64<|(({x with s:=3}:PS).pend<|S.take j).bG.getD q' 0):=by
     rw[Aa];exact fC.jy (uA HX.o) (3+q') _<|LY _ nT
    have sW:(0:Int)<=(q':Int):=by omega
    have wS:(q':Int)<4:=by omega
    have hj0:(0:Int)<=(j:Int):=by omega
    have sZ:(j:Int)<S.length:=by omega
    clear dG fC dP hq
    go_wp2_with fail
    go_roundw
    case rel=>
     have hs:=HR.o.setCell ((({x with s:=3}:PS).pend<|S.take j).tie q' 2) (j:=3+q') (v:=ag ah 2) (uA HX.o) (by omega)<|Xa _ nT 2
     rw[H9,<-Aa]at hs
     refine⟨j+1,by omega,by go_num,?_,FR.o.t hs.2 fun _=>.inl⟩
     rw[HT.o]
     exact hs.1
    case measure=>simp[eU]<;>omega
   ·have HT:aj (S.take j=S):=Fp (by omega)
    have e8:=fC.jy (uA HX.o) 8 _ rfl
    have e9:=fC.jy (uA HX.o) 9 _ rfl
    clear fC dP
    go_wp2_with fail
    go_end0
    have s1:=HR.o.setCell {(({x with s:=3}:PS).pend<|S.take j)with wa:=1} (j:=8) (v:=ag ah 1) (uA HX.o) (by omega) rfl
    rw[H9]at s1
    have s2:=s1.1.setCell {(({x with s:=3}:PS).pend<|S.take j)with wa:=1,ga:=1} (j:=9) (v:=ag ah 1) (uA HX.o) (by omega) rfl
    rw[H9]at s2
    refine⟨rfl,?_,(((FW.o.t F1.o dw).t FR.o fun _=>.inl).t s1.2 fun _=>.inl).t s2.2 fun _=>.inl⟩
    rw[HS.o,<-HT.o]
    exact s2.1
 ·obtain rfl:a=1:=ha;obtain rfl:s'=2:=uU;go_enter func181,ntmps181
  go_wp2_with fail
  go_region
  go_wp2_with fail
  have KP:=(HH.o.setCell {x with s:=3} (j:=2) (v:=ag ah 3) HX.o (by omega) rfl);have hW:=(KP.1.setCell {x with s:=2} (j:=2) (v:=ag ah 2) (uA HX.o) (by omega) rfl);rw[H9]at hW;have fW:Fr aS ((aX w ⟨xb,6+i*10+2,af⟩<|ag ah 3).setCell ⟨xb,6+i*10+2,af⟩<|ag ah 2) (((aX w ⟨xb,6+i*10+2,af⟩<|ag ah 3).setCell ⟨xb,6+i*10+2,af⟩<|ag ah 2).alloc<|aG #[ag ah k,ag ah i,ag ah 1,ag ah m] 184).drew:=(bQ _).drew;replace hW:=(⟨hW.1.a fW,(KP.2.t hW.2 fun _=>.inl).t fW dw⟩:aH _ B xb n (h.eH i {x with s:=2})/\Fr (fun k=>k=xb) w _);generalize(((aX w ⟨xb,6+i*10+2,af⟩<|ag ah 3).setCell ⟨xb,6+i*10+2,af⟩<|ag ah 2).alloc<|aG #[ag ah k,ag ah i,ag ah 1,ag ah m] 184).drew=W at hW⊢
  clear fW KP;have HW:aj (aH W B xb n<|h.eH i {x with s:=2}):=hW.1;have FW:aj (Fr (fun k=>k=xb) w W):=hW.2;have bx:xb<W.heap.size:=gu iC hW.2.size;have Jy:aj (∀j v,({x with s:=2}:PS).cs[j]? =ae v->aB W ⟨xb,6+i*10+j,af⟩=ae v):=fun j v hv=>hW.1.jy (uA HX.o) j v hv;clear hW e0 e1 e2 ef;refine(LW (p:={x with s:=2}) Jy.o 1).z ?_;rintro e w1 ⟨v,rfl,hv,hf⟩;have F1:aj (Fr aS W w1):=hf;obtain⟨S,hS⟩:∃S,bZ ({x with s:=2}:PS).bG 1 4=S:=⟨_,rfl⟩;have HS:aj (bZ x.bG 1 4=S):=hS;have Sv:aj (∀q∈S,∃q':Nat,q=q'/\q'<4):=by
   show∀q∈S,∃q':Nat,q=q'/\q'<4;rw[<-hS];exact agQ _ _
  rw[hS]at hv;have V1:aj (Bq W w1 v S):=hv;have H1:aj (aH w1 B xb n<|h.eH i {x with s:=2}):=HW.o.a hf;obtain⟨va,vc,rfl,DI⟩:=lI hv;have KN:S.length<=4:=by rw[<-hS];exact abf _ _ _
  clear hf hS hv DI;go_wp2_with fail
  go_loopw [24] (fun ii w'=>∃j:Nat,j<=S.length/\ii=ag ah j/\aH w' B xb n (h.eH i<|({x with s:=2}:PS).pend<|S.take j)/\Fr (fun k=>k=xb) w1 w') (fun ii _=>(S.length-eU ii).toNat)
  case atStart=>exact⟨0,by omega,rfl,H1.o,Fr.refl _ _⟩
  case round=>
   obtain⟨j,hj,rfl,fC,dP⟩:=hrel
   have HR:aj (aH wr B xb n<|h.eH i<|({x with s:=2}:PS).pend<|S.take j):=fC
   have FR:aj (Fr (fun k=>k=xb) w1 wr):=dP
   have rf:∀o,wr.frozen? ⟨xb,o,af⟩=false:=kK fC.blk
   by_cases aK:j<S.length
   ·obtain⟨q,hq⟩:∃q,S[j]? =ae q:=⟨_,eY aK⟩
    obtain⟨q',rfl,nT⟩:=Sv.o q<|gZ hq
    have HT:aj (({x with s:=2}:PS).pend (S.take<|j+1)=(({x with s:=2}:PS).pend<|S.take j).tie q' 2):=by
     show PS.pend _ _=_;rw[yu,hq,CO,PS.agR]
    have dG:=dP.ownsRow V1.o (fun k hk e=>by have:=(V1.o.lt k hk).1;omega)
    obtain⟨g,gc,xW,_⟩:=JE dG<|by omega
    simp only[aFi]at xW
    obtain⟨rfl,_,rfl⟩:=xW
    have cq:=Bo dG hq
    have e3:aB wr ⟨xb,6+i*10+3+q',af⟩=ae (.int .i64<|(({x with s:=2}:PS).pend<|S.take j).bG.getD q' 0):=by
     rw[Aa];exact fC.jy (uA HX.o) (3+q') _<|LY _ nT
    have sW:(0:Int)<=(q':Int):=by omega
    have wS:(q':Int)<4:=by omega
    have hj0:(0:Int)<=(j:Int):=by omega
    have sZ:(j:Int)<S.length:=by omega
    clear dG fC dP hq
    go_wp2_with fail
    go_roundw
    case rel=>
     have hs:=HR.o.setCell ((({x with s:=2}:PS).pend<|S.take j).tie q' 2) (j:=3+q') (v:=ag ah 2) (uA HX.o) (by omega)<|Xa _ nT 2
     rw[H9,<-Aa]at hs
     refine⟨j+1,by omega,by go_num,?_,FR.o.t hs.2 fun _=>.inl⟩
     rw[HT.o]
     exact hs.1
    case measure=>simp[eU]<;>omega
   ·have HT:aj (S.take j=S):=Fp (by omega)
    have e8:=fC.jy (uA HX.o) 8 _ rfl
    have e9:=fC.jy (uA HX.o) 9 _ rfl
    clear fC dP
    go_wp2_with fail
    go_end0
    have s1:=HR.o.setCell {(({x with s:=2}:PS).pend<|S.take j)with wa:=1} (j:=8) (v:=ag ah 1) (uA HX.o) (by omega) rfl
    rw[H9]at s1
    have s2:=s1.1.setCell {(({x with s:=2}:PS).pend<|S.take j)with wa:=1,ga:=1} (j:=9) (v:=ag ah 1) (uA HX.o) (by omega) rfl
    rw[H9]at s2
    refine⟨rfl,?_,(((FW.o.t F1.o dw).t FR.o fun _=>.inl).t s1.2 fun _=>.inl).t s2.2 fun _=>.inl⟩
    rw[HS.o,<-HT.o]
    exact s2.1
end
def ao2(m k:Nat):kL m (k+1)=UInt8.ofNat (m/256^k%256)::kL m k:=by
 induction k generalizing m with
 |zero=>simp[kL]
 |succ k ih=>
  rw[kL,ih<|m/256];show UInt8.ofNat (m/256/256^k%256)::kL (m/256) k++[UInt8.ofNat<|m%256]=_;rw[Nat.div_div_eq_div_mul,Nat.pow_succ,aaM];rfl
def ao3(m k i:Nat)(h:i<k):(kL m k)[i]? =ae (UInt8.ofNat<|m/256^(k-1-i)%256):=by
 induction k generalizing i with
 |zero=>omega
 |succ k ih=>
  rw[ao2];match i with
  |0=>simp
  |i+1=>
   rw[Bi,ih i<|by omega];have:k-1-i=k+1-1-(i+1):=by omega
   rw[this]
def numOf(l:List UInt8):Nat:=l.foldl (fun n x=>n*256+x.toNat) 0
def abn(l:List UInt8)(x:UInt8):numOf (l++[x])=numOf l*256+x.toNat:=by simp[numOf,WO]
def ao4(l:List UInt8):numOf l<256^l.length:=by
 suffices h:∀(k:Nat) (l:List UInt8),l.length=k->numOf l<256^k from h _ l rfl
 intro k;induction k with
 |zero=>intro l hl;rw[WI.1 hl];simp[numOf]
 |succ k ih=>
  intro l hl;have dD:l≠[]:=fun e=>by simp[e]at hl
  rw[<-List.dropLast_concat_getLast dD,abn];have h1:=ih l.dropLast (by simp[hl]);have h2:=(l.getLast dD).toNat_lt;rw[Nat.pow_succ];simp at h2;omega
def ao5(m k:Nat):numOf (kL m k)=m%256^k:=by
 induction k generalizing m with
 |zero=>simp[kL,numOf,Nat.mod_one]
 |succ k ih=>
  rw[kL,abn,ih,Nat.pow_succ,aaM<|256^k,Nat.mod_mul];simp<;>omega
def agS{m k:Nat}(h:m<256^k):numOf (kL m k)=m:=by rw[ao5,Nat.mod_eq_of_lt h]
section
def oI(l:List UInt8):Int:=(qN l).2*65536+(qN l).1
def wrap_u32{n:Int}(h0:0<=n)(hm:n<4294967296):IntKind.u32.wrap n=n:=by
 unfold IntKind.wrap;simp[IntKind.bits,IntKind.signed]<;>omega
def wrap_u64{n:Int}(h0:0<=n)(hm:n<18446744073709551616):IntKind.u64.wrap n=n:=by
 unfold IntKind.wrap;simp[IntKind.bits,IntKind.signed]<;>omega
def uB(w:ay)(g o:Nat)(l:List UInt8):Prop:=∀j x,l[j]? =ae x->aB w ⟨g,o+j,af⟩=ae (.int .u8 x.toNat)
variable{n g o cap x:Nat}{w:ay}{l:List UInt8}
def agT(h:uB w g o l)(hl:l.length<=1000):
 aW prog 195 #[aN (ae ⟨g,o,af⟩) l.length cap] w fun e w'=>e=aV (.int .u32<|oI l)/\w=w':=by
 have HB:aj (uB w g o l):=h;obtain⟨n,hn⟩:∃n,l.length=n:=⟨_,rfl⟩;rw[hn]at hl⊢
 clear h;go_enter func195,ntmps195
 go_wp2_with fail
 go_loopw [3,4,9] (fun a b i w'=>∃k:Nat,k<=n/\i=ag ah k/\a=.int .u32 (qN<|l.take k).1/\b=.int .u32 (qN<|l.take k).2/\w=w') (fun _ _ i _=>(n-eU i).toNat)
 case atStart=>exact⟨0,by omega,rfl,rfl,rfl,rfl⟩
 case round=>
  obtain⟨k,hk,rfl,rfl,rfl,rfl⟩:=hrel
  by_cases aK:k<n
  ·obtain⟨c,hc⟩:∃c,l[k]? =ae c:=⟨_,eY<|by omega⟩
   have hcell:=HB.o k c hc
   have HA:aj (qN (l.take<|k+1)=CX (qN<|l.take k) c):=by show qN (l.take<|k+1)=_;rw[yu,hc,CO,aoU]
   have Ee:=Sj<|l.take k
   generalize qN (l.take k)=ab at HA Ee
   obtain⟨a,b⟩:=ab
   simp only at Ee⊢
   obtain⟨i1,i2,i3,i4⟩:=Ee
   obtain⟨x,hx⟩:∃x:Int,(c.toNat:Int)=x:=⟨_,rfl⟩
   rw[hx]at hcell
   have o9:0<=x:=by omega
   have iJ:x<256:=by have:=c.toNat_lt;omega
   obtain⟨a1,NW⟩:∃a1:Int,(a+x)%65521=a1:=⟨_,rfl⟩
   obtain⟨b1,AO⟩:∃b1:Int,(b+a1)%65521=b1:=⟨_,rfl⟩
   have q1:IntKind.u32.wrap (a+x)=a+x:=wrap_u32 (by omega)<|by omega
   have q2:(a+x).tmod 65521=a1:=by rw[anB<|by omega];exact NW
   have q3:IntKind.u32.wrap (b+a1)=b+a1:=wrap_u32 (by omega)<|by omega
   have q4:(b+a1).tmod 65521=b1:=by rw[anB<|by omega];exact AO
   have q5:IntKind.u32.wrap x=x:=wrap_u32 o9<|by omega
   have q6:IntKind.u32.wrap a1=a1:=wrap_u32 (by omega)<|by omega
   have q7:IntKind.u32.wrap b1=b1:=wrap_u32 (by omega)<|by omega
   have KJ:aj (qN (l.take<|k+1)=(a1,b1)):=by show qN (l.take<|k+1)=(a1,b1);rw[HA.o];simp only[CX];rw[hx,NW,AO]
   have sU:(0:Int)<=(k:Int):=by omega
   have aT:(k:Int)<n:=by omega
   clear HA NW AO i1 i2 i3 i4 o9 iJ hc
   go_wp2_with fail
   go_roundw
   case rel=>exact⟨k+1,by omega,by go_num,by rw[KJ.o],by rw[KJ.o],trivial⟩
   case measure=>simp[eU]<;>omega
  ·have hkn:k=n:=by omega
   have HT:aj (l.take k=l):=Fp<|by omega
   subst hkn
   have Ee:=Sj l
   have HE:aj (oI l=(qN l).2*65536+(qN l).1):=rfl
   rw[HT.o]
   generalize qN l=ab at Ee HE
   obtain⟨a,b⟩:=ab
   simp only at Ee⊢
   obtain⟨i1,i2,i3,i4⟩:=Ee
   have q1:IntKind.u32.wrap (b*65536)=b*65536:=wrap_u32 (by omega)<|by omega
   have q2:IntKind.u32.wrap (b*65536+a)=b*65536+a:=wrap_u32 (by omega)<|by omega
   clear i1 i2 i3 i4
   go_wp2_with fail
   go_ret
   exact⟨by rw[HE.o];rfl,rfl⟩
def ao6(hn:n<72057594037927936)(hx:x<256):(BitVec.ofInt 64 ((n:Int)*256)|||BitVec.ofInt 64 (x:Int)).toNat=n*256+x:=by
 have e1:BitVec.ofInt 64 ((n:Int)*256)=BitVec.ofNat 64 (n*256):=by
  apply BitVec.eq_of_toNat_eq;simp<;>omega
 have e2:BitVec.ofInt 64 (x:Int)=BitVec.ofNat 64 x:=by
  apply BitVec.eq_of_toNat_eq;simp
 rw[e1,e2,BitVec.toNat_or,BitVec.toNat_ofNat,BitVec.toNat_ofNat,Nat.mod_eq_of_lt<|by omega,Nat.mod_eq_of_lt<|by omega];have:=Nat.two_pow_add_eq_or_of_lt (i:=8) (show x<2^8 by omega) n;rw[aaM n 256];exact this.s
def ao7(hn:n<72057594037927936)(hx:x<256):bits .or .u64 ((n:Int)*256) (x:Int)=((n*256+x:Nat):Int):=by
 have:=ao6 hn hx;show IntKind.u64.wrap _=_;rw[show(BitVec.ofInt IntKind.u64.bits ((n:Int)*256)|||BitVec.ofInt IntKind.u64.bits (x:Int)).toNat=n*256+x from this];exact wrap_u64 (by omega)<|by omega
def agU(h:uB w g o l)(hl:l.length<=8):
 aW prog 178 #[aN (ae ⟨g,o,af⟩) l.length cap] w fun e w'=>e=aV (.int .u64<|numOf l)/\w=w':=by
 have HB:aj (uB w g o l):=h;obtain⟨n,hn⟩:∃n,l.length=n:=⟨_,rfl⟩;rw[hn]at hl⊢
 clear h;go_enter func178,ntmps178
 go_wp2_with fail
 go_loopw [3,8] (fun a i w'=>∃k:Nat,k<=n/\i=ag ah k/\a=.int .u64 (numOf<|l.take k)/\w=w') (fun _ i _=>(n-eU i).toNat)
 case atStart=>exact⟨0,by omega,rfl,rfl,rfl⟩
 case round=>
  obtain⟨k,hk,rfl,rfl,rfl⟩:=hrel
  by_cases aK:k<n
  ·obtain⟨c,hc⟩:∃c,l[k]? =ae c:=⟨_,eY<|by omega⟩
   have hcell:=HB.o k c hc
   have HA:aj (numOf (l.take<|k+1)=numOf (l.take k)*256+c.toNat):=by show numOf (l.take<|k+1)=_;rw[yu,hc,CO,abn]
   have nH:=ao4<|l.take k
   have hp:256^(l.take k).length<=256^7:=Nat.pow_le_pow_right (by omega) (by simp<;>omega)
   generalize numOf (l.take k)=m at HA nH⊢
   have hm:m<72057594037927936:=by omega
   obtain⟨x,hx⟩:∃x:Nat,c.toNat=x:=⟨_,rfl⟩
   rw[hx]at hcell HA
   have iJ:x<256:=by have:=c.toNat_lt;omega
   clear nH hp hx hc
   go_wp2_with fail
   go_roundw
   case rel=>exact⟨k+1,by omega,by go_num,by rw[HA.o,ao7 hm iJ],trivial⟩
   case measure=>simp[eU]<;>omega
  ·have hkn:k=n:=by omega
   have HT:aj (l.take k=l):=Fp<|by omega
   subst hkn
   rw[HT.o]
   go_wp2_with fail
   go_ret
   exact⟨rfl,rfl⟩
def uB.sub(h:uB w g o l)(i n:Nat):uB w g (o+i) ((l.drop i).take n):=fun j x hj=>by
 rw[List.getElem?_take]at hj;split at hj
 ·rw[List.getElem?_drop]at hj;rw[Aa];exact h _ _ hj
 ·cases hj
def Sz(l:List UInt8):Bool:=decide<|((numOf ((l.drop 12).take 4):Nat):Int)=oI (l.take 12)
def ao8(w:ay)(a:Option Addr)(hn:n<16):aW prog 177 #[.slice a n cap] w fun r w'=>r=aV (aF false)/\Fr aS w w':=by
 match n,hn with
 |0,_|1,_|2,_|3,_|4,_|5,_|6,_|7,_|8,_|9,_|10,_|11,_|12,_|13,_|14,_|15,_=>
  go_enter func177,ntmps177
  go_wp2_with fail
  go_quiet (fail)
  go_wp2
  go_ret;exact⟨rfl,dR.drewN _⟩
 |n+16,h=>omega
def ao9(h:uB w g o l)(hl:16<=l.length)(vP:l.length<=cap):
 aW prog 177 #[aN (ae ⟨g,o,af⟩) l.length cap] w fun e w'=>e=aV (.bool<|Sz l)/\Fr aS w w':=by
 have H1:aj (uB w g (o+12)<|(l.drop 12).take 4):=h.sub 12 4;have H2:aj (uB w g o<|l.take 12):=by have:=h.sub 0 12;simp at this;exact this
 have L1:aj (((l.drop 12).take 4).length=4):=by show((l.drop 12).take 4).length=4;simp<;>omega
 have L2:aj ((l.take 12).length=12):=by show(l.take 12).length=12;simp<;>omega
 have HW:aj (Sz l=decide (((numOf ((l.drop 12).take 4):Nat):Int)=oI (l.take 12))):=rfl;obtain⟨n,hn⟩:∃n,l.length=n:=⟨_,rfl⟩;rw[hn]at hl vP⊢
 generalize(l.drop 12).take 4=l1 at H1 L1 HW;generalize l.take 12=l2 at H2 L2 HW;have tq:(16:Int)<=n:=by omega
 have fZ:=Sj l2;have Vu:0<=oI l2:=by unfold oI;omega
 have as1:oI l2<4294967296:=by unfold oI;omega
 have as2:IntKind.u64.wrap (oI l2)=oI l2:=wrap_u64 Vu (by omega);have pV:(16:Int)<=cap:=by omega
 have lY:(12:Int)<=cap:=by omega
 have hc3:¬cap=12:=by omega
 clear h fZ;go_enter func177,ntmps177
 go_wp2_with fail
 go_region_held3 (fun _=>True) (first|trivial|go_keep)
  (first
    |(go_at_call 178;refine(show aW prog 178 _ _ _ from by have:=agU (w:=w.drew) (cap:=cap-12) H1.o (by have:=L1.o;omega);rw[L1.o]at this;exact this).z ?_;rintro e w1 ⟨rfl,rfl⟩)
    |(go_at_call 195;refine(show aW prog 195 _ _ _ from by have:=agT (w:=w.drew) (cap:=cap) H2.o (by have:=L2.o;omega);rw[L2.o]at this;exact this).z ?_;rintro e w2 ⟨rfl,rfl⟩))
 go_wp2
 go_ret;exact⟨by rw[HW.o];exact gy (fun b=>Ending.returned<|aF b) rfl,dR.drew⟩
end
section
def abp:(prog.info? 5).map (fun i=>(i.zero,i.size,i.bytes))=ae (ae<|.int .u8 0,1,1):=by kernel_rfl
def gp(l:List UInt8):List Value:=l.map fun b=>.int .u8 b.toNat
def Ia(l:List UInt8):(gp l).length=l.length:=by simp[gp]
def abq(l m:List UInt8):gp (l++m)=gp l++gp m:=by simp[gp]
def apb(m j:Nat):((m:Int)/2^(8*j)%256)=((UInt8.ofNat<|m/256^j%256).toNat:Int):=by
 rw[UInt8.toNat_ofNat'];have:(2:Int)^(8*j)=((256^j:Nat):Int):=by
  rw[Int.pow_mul];simp
 rw[this];omega
variable{w:ay}{B n:Nat}{l:List UInt8}{x:Int}
def agV{v:aA}{m k:Nat}(h:bD w B 5 1 v l.length (gp l))(hk:k<=8)(hl:l.length<=1000)(hB:B<=w.heap.size):
 aW prog 194 #[v,.int .u64 m,ag ah k] w fun e w'=>∃v',e=aV v'/\bD w' B 5 1 v' (l++kL m k).length (gp<|l++kL m k)/\Fr (fun x=>B<=x) w w':=by
 have HV:aj (bD w B 5 1 v l.length<|gp l):=h;obtain⟨i0,ed,iI,ig,jg⟩:=aFq abp;clear h;go_enter func194,ntmps194
 go_wp2_with fail
 go_loopw [0,9] (fun v' i w'=>∃j:Nat,j<=k/\i=ag ah j/\bD w' B 5 1 v' (l++(kL m k).take j).length (gp<|l++(kL m k).take j)/\Fr (fun x=>B<=x) w w') (fun _ i _=>(k-eU i).toNat)
 case atStart=>exact⟨0,by omega,rfl,by simpa using HV.o,Fr.refl _ _⟩
 case round=>
  obtain⟨j,hj,rfl,dG,dP⟩:=hrel
  have HF:aj (Fr (fun x=>B<=x) w wr):=dP
  obtain⟨p,hp⟩:∃p,l++(kL m k).take j=p:=⟨_,rfl⟩
  rw[hp]at dG
  have HP:aj (l++(kL m k).take j=p):=hp
  have iT:p.length=l.length+j:=by rw[<-hp];simp[Si]<;>omega
  have fP:=dP.size
  have uh:p.length<=1008:=by omega
  obtain⟨va,vc,rfl,_⟩:=oP dG
  obtain⟨pl,QV⟩:∃pl,p.length=pl:=⟨_,rfl⟩
  have HW:aj (bD wr B 5 1 (.slice va pl vc) pl<|gp p):=by rw[<-QV];exact dG
  rw[QV]at uh⊢
  have wB:aj (p.length=pl):=QV
  by_cases aK:j<k
  ·have HG:aj (l++(kL m k).take (j+1)=p++[UInt8.ofNat<|m/256^(k-1-j)%256]):=by
    show l++(kL m k).take (j+1)=_;rw[yu,ao3 m k j aK,CO,<-CP,HP.o]
   have HBY:aj ((m:Int)/2^(8*(k-1-j))%256=((UInt8.ofNat<|m/256^(k-1-j)%256).toNat:Int)):=apb m<|k-1-j
   clear dP hp iT QV dG
   have sZ:(j:Int)<k:=by omega
   have q1:(0:Int)<=(k:Int)-1-j:=by omega
   go_wp2_with (at_builtin;refine aFE _ rfl _ _ 99 rfl B 5 i0 _ 1 1 underlying99 ed iI ig jg rfl (by decide) _ _ (gp p) rfl (by exact HW.o.alloc _) ⟨wr.heap.size,0,af⟩ 1 1 [.int .u8<|(m:Int)/2^(8*(k-1-j))%256] rfl rfl (aFk (cs:=#[.int .u8<|(m:Int)/2^(8*(k-1-j))%256]) (t:=5) (fr:=(0,0))<|aFb _ _) (by simp[Value.oneCell']) (by decide) (by simp only[eP];omega) (by omega) (by simp<;>omega) (wr.heap.size+1) (by simp) ?_;intro gg FC w3 o8 lX tH uQ)
   go_roundw
   case rel=>
    have DF:Fr (fun x=>B<=x) wr w3:=(dR.alloc _).grown lX fun x ex=>.inl (HW.o.lt x ex).1
    refine⟨j+1,by omega,by go_num,?_,HF.o.t DF fun _ h=>.inl h⟩
    rw[HG.o,iW,wB.o,abq]
    rw[HBY.o]at o8
    exact o8
   case measure=>simp[eU]<;>omega
  ·have NY:j=k:=by omega
   have HT:aj (l++kL m k=p):=by have:=HP.o;rw[Fp (by rw[Si];omega)]at this;exact this
   clear dP hp iT QV dG
   subst NY
   go_wp2_with fail
   go_ret
   exact⟨_,rfl,by rw[HT.o,wB.o];exact HW.o,HF.o⟩
def uB.agW{g cap:Nat}(h:bD w B 5 1 (aN (ae ⟨g,0,af⟩) n cap) l.length (gp l)):uB w g 0 l:=fun j x hj=>by
 have:=h.cells (g:=g) rfl j (.int .u8 x.toNat) (by simp[gp,hj]);rw[aFA]at this;exact this
def abr(h0:0<=x)(h1:x<256):IntKind.u8.wrap x=x:=by
 unfold IntKind.wrap;simp[IntKind.bits,IntKind.signed]<;>omega
def Ib(h0:0<=x)(h1:x<256):kL x.toNat 1=[UInt8.ofNat x.toNat]:=by
 simp[kL];congr 1;omega
def toNat_one(h0:0<=x)(h1:x<256):((UInt8.ofNat x.toNat).toNat:Int)=x:=by
 rw[UInt8.toNat_ofNat'];omega
def abt(w:ay){r:Rc}(h:r.Small n)(hn:n<1000000000000):
 aW prog 171 #[iF #[ag ah r.k,ag ah r.p,ag ah r.a,ag ah r.m]] w fun e w'=>∃v,e=aV v/\bD w' w.heap.size 5 1 v 16 (gp<|fB r)/\Fr aS w w':=by
 obtain⟨k0,k1,p0,p1,a0,a1,m0,m1⟩:=h;have q1:IntKind.u8.wrap r.k=r.k:=abr (by omega) (by omega);have q2:IntKind.u8.wrap r.p=r.p:=abr (by omega) (by omega);have q3:IntKind.u8.wrap r.a=r.a:=abr (by omega) (by omega);have q4:IntKind.u64.wrap r.m=r.m:=wrap_u64 (by omega) (by omega);obtain⟨l4,NV⟩:∃l4:List UInt8,l4=[UInt8.ofNat r.k.toNat,UInt8.ofNat r.p.toNat,UInt8.ofNat r.a.toNat,0]:=⟨_,rfl⟩;have HB4:aj (gp l4=[.int .u8 r.k,.int .u8 r.p,.int .u8 r.a,.int .u8 0]):=by
  show gp l4=_;rw[NV];simp only[gp,rQ,tC];rw[toNat_one (by omega)<|by omega,toNat_one (by omega)<|by omega,toNat_one (by omega)<|by omega];rfl
 have HL4:aj (l4.length=4):=by show l4.length=4;rw[NV];rfl
 have HH:aj (l4++kL r.m.toNat 8=kM r):=by
  show l4++kL r.m.toNat 8=kM r;unfold kM;rw[NV,Ib (by omega)<|by omega,Ib (by omega)<|by omega,Ib (by omega)<|by omega];rfl
 have HM:aj (r.m=(r.m.toNat:Int)):=by show r.m=(r.m.toNat:Int);omega
 have fZ:=Sj<|kM r;have Vu:0<=oI (kM r):=by unfold oI;omega
 have as1:oI (kM r)<4294967296:=by unfold oI;omega
 have as2:IntKind.u64.wrap (oI<|kM r)=oI (kM r):=wrap_u64 Vu (by omega);have HS:aj (oI (kM r)=((oI<|kM r).toNat:Int)):=by show oI (kM r)=((oI<|kM r).toNat:Int);omega
 have HR:aj (kM r++kL (oI<|kM r).toNat 4=fB r):=rfl;clear NV fZ Vu as1 k0 k1 p0 p1 a0 a1 m0 m1;go_enter func171,ntmps171
 go_wp2_with fail
 obtain⟨W,hW⟩:∃W,((w.alloc<|aG #[ag ah r.k,ag ah r.p,ag ah r.a,ag ah r.m] 184).alloc<|aG #[.int .u8 r.k,.int .u8 r.p,.int .u8 r.a,.int .u8 0] 5)=W:=⟨_,rfl⟩;have HWF:aj (Fr aS w W):=by rw[<-hW];exact(bQ _).alloc _
 have HW0:bD W w.heap.size 5 1 (aN (ae ⟨w.heap.size+1,0,af⟩) 4 4) l4.length (gp l4):=by
  rw[<-hW,HL4.o,HB4.o];have:=aGq (base:=w.heap.size) (e:=5) (size:=1) (w.alloc<|aG #[ag ah r.k,ag ah r.p,ag ah r.a,ag ah r.m] 184) #[.int .u8 r.k,.int .u8 r.p,.int .u8 r.a,.int .u8 0] 4 (by simp) (by decide) (by simp);simpa using this
 have HW:aj (bD W w.heap.size 5 1 (aN (ae ⟨w.heap.size+1,0,af⟩) 4 4) l4.length<|gp l4):=HW0;rw[hW];clear hW HW0;have uy:aj (aW prog 194 #[aN (ae ⟨w.heap.size+1,0,af⟩) 4 4,.int .u64 r.m,ag ah 8] W fun e w'=>∃v',e=aV v'/\bD w' w.heap.size 5 1 v' (kM r).length (gp<|kM r)/\Fr (fun x=>w.heap.size<=x) W w'):=by
  have:=agV (m:=r.m.toNat) (k:=8) HW.o (by decide) (by have:=HL4.o;omega) HWF.o.size;rw[<-HM.o,HH.o]at this;exact this
 refine uy.o.z ?_;rintro e w1 ⟨v1,rfl,jP,bU⟩;have F1:aj (Fr aS w w1):=HWF.o.t bU fun _ h=>.inr h;have V1:aj (bD w1 w.heap.size 5 1 v1 (kM r).length<|gp<|kM r):=jP;obtain⟨g,cap,rfl,vP⟩:=JE jP (by rw[O4];decide);have HB:aj (uB w1 g 0<|kM r):=uB.agW jP;have HRL:aj ((kM r).length=12):=O4 r;have ig:=F1.o.size;clear jP bU uy;have ui:aj (aW prog 195 #[aN (ae ⟨g,0,af⟩) (kM r).length cap] w1 fun e w'=>e=aV (.int .u32<|oI<|kM r)/\w1=w'):=agT HB.o (by rw[O4];decide);have HC3:aj (aW prog 194 #[aN (ae ⟨g,0,af⟩) (kM r).length cap,.int .u64<|oI<|kM r,ag ah 4] w1 fun e w'=>∃v',e=aV v'/\bD w' w.heap.size 5 1 v' (fB r).length (gp<|fB r)/\Fr (fun x=>w.heap.size<=x) w1 w'):=by
  have:=agV (m:=(oI<|kM r).toNat) (k:=4) V1.o (by decide) (by have:=HRL.o;omega) ig;rw[<-HS.o,HR.o]at this;exact this
 go_wp2_with (first
  |(go_at_call 195;(with_reducible refine ui.o.z ?_);rintro e w2 ⟨rfl,rfl⟩)
  |(go_at_call 194;(with_reducible refine HC3.o.z ?_);rintro e w3 ⟨v3,rfl,QU,lM⟩;have V3:aj (bD w3 w.heap.size 5 1 v3 (fB r).length<|gp<|fB r):=QU;have F3:aj (Fr (fun x=>w.heap.size<=x) w1 w3):=lM;clear QU lM))
 go_ret;refine⟨_,rfl,?_,F1.o.t F3.o fun _ h=>.inr h⟩;have:=V3.o;rw[FI]at this;exact this
end
section
def xq(r:Rc):Value:=iF #[ag ah r.k,ag ah r.p,ag ah r.a,ag ah r.m]
def HS.qo(h:HS)(jv:aA)(new:List aA):HS:={h with jv:=jv,jb:=h.jb++new}
def HS.agZ(h:HS)(jv:aA)(new:List aA):h.cells.toArray.setIfInBounds 4 jv=(h.qo jv new).cells.toArray:=by
 simp[HS.cells,HS.qo]
def ag0(x:PS):x.pend (bZ x.bG 1 4)={x with a:=nN x.a,b:=nN x.b,c:=nN x.c,d:=nN x.d}:=by
 obtain⟨e,t,s,a,b,c,d,si,wa,ga⟩:=x;have hr:List.range 4=[0,1,2,3]:=rfl;by_cases ha:1<=a<;>by_cases hb:1<=b<;>by_cases hc:1<=c<;>by_cases hd:1<=d<;>
  simp[bZ,hr,PS.bG,PS.pend,PS.tie,nN,ha,hb,hc,hd,List.filter]
def apf(w:ay)(b:Nat):(Instr.index 193 (.agg<|rU b)<|ag ah 1).run prog w=.ok (.func (.func 179) #[] #[az<|ae ⟨b,0,af⟩]) w:=by kernel_rfl
def apg(w:ay)(b:Nat):(Instr.index 193 (.agg<|rU b)<|ag ah 2).run prog w=.ok (.func (.func 180) #[] #[az<|ae ⟨b,0,af⟩]) w:=by kernel_rfl
def aph(w:ay)(b:Nat):(Instr.index 193 (.agg<|rU b)<|ag ah 3).run prog w=.ok (.func (.func 181) #[] #[az<|ae ⟨b,0,af⟩]) w:=by kernel_rfl
def api(w:ay)(b:Nat):(Instr.index 193 (.agg<|rU b)<|ag ah 4).run prog w=.ok (.func (.func 182) #[] #[az<|ae ⟨b,0,af⟩]) w:=by kernel_rfl
def HS.apj(h:HS):h.qo h.jv []=h:=by simp[HS.qo]
def ag1(l:List UInt8):∀u∈gp l,u.oneCell'=true:=by
 intro u hu;simp only[gp,Hr]at hu;obtain⟨b,_,rfl⟩:=hu;rfl
def O7{h:HS}{i:Nat}{x:PS}{r:Rc}{jv:aA}{new:List aA}(hx:h.ps[i]? =ae x)(hr:r.p=i):({h.qo jv new with ps:=kz h.ps r}:HS)=(h.qo jv new).eH i (x.dA r):=by
 have:r.p.toNat=i:=by omega
 simp[kz,HS.eH,HS.qo,this,List.getD,hx]
variable{w w':ay}{B xb n:Nat}{h:HS}
def aH.ag2{W w3:ay}{jv:aA}{m:Nat}{new:List aA}(hh:aH w B xb n h)(fW:Fr aS w W)(hg:W.grownBy w3 h.jv.ownBlock)(jf:bD w3 B 5 1 jv (h.jb.length+m) (h.jb++new))(hm:new.length=m)(fC:∀q,bY jv=ae q->h.jv.ownBlock=ae q\/w.heap.size<=q):
 aH (aX w3 ⟨xb,4,af⟩ jv) B xb n (h.qo jv new)/\Fr (fun k=>k=xb\/h.jv.ownBlock=ae k) w (aX w3 ⟨xb,4,af⟩ jv):=by
 have aK:=bn hh.blk;have f3:Fr (fun q=>h.jv.ownBlock=ae q) w w3:=(fW.z dw).grown hg fun q e=>.inl e;have b3:w3.heap[xb]? =ae (.cells h.cells.toArray 111 (0,0)):=(f3.block xb aK hh.RY).t hh.blk;have fs:Fr (fun q=>q=xb) w3 (aX w3 ⟨xb,4,af⟩ jv):=(Fr.refl (fun q=>q=xb) w3).setCell (p:=⟨xb,4,af⟩) (.inl rfl) _;have f4:Fr (fun k=>k=xb\/h.jv.ownBlock=ae k) w (aX w3 ⟨xb,4,af⟩ jv):=(f3.z fun q e=>.inl<|.inr e).t fs fun q e=>.inl<|.inl e;have row:∀{ty:dJ} {wd:Nat} {v:aA} {k:Nat} {xs:List aA},bD w B ty wd v k xs->ty≠5->ty≠111->(aX w3 ⟨xb,4,af⟩ jv).ownsRow B ty wd v k xs:=fun ho h5 h1=>f4.ownsRow ho (fun q hq e=>by
  have t0:=iY ho hq;rcases e with e|e
  ·subst e;rw[mO hh.blk]at t0;exact h1 t0.s
  ·rw[iY hh.mg e]at t0;exact h5 t0.s)
 refine⟨⟨?_,?_,row hh.ku (by decide)<|by decide,row hh.nM (by decide)<|by decide,fun p hp=>(hh.dZ p hp).stay f4 fun q hq hf=>?_,hh.hx,hh.hP,hh.hQ,hh.h6⟩,f4⟩
 ·rw[kU b3,HS.agZ h jv new]
 ·show(aX w3 ⟨xb,4,af⟩ jv).ownsRow B 5 1 jv (h.jb++new).length (h.jb++new);rw[iW,hm];refine fs.ownsRow jf fun q hq e=>?_;subst e;rcases fC _ hq with a|a
  ·exact hh.RY a
  ·omega
 ·rcases hq with hq|hq
  ·have h0:=mO hh.blk;subst hq;rcases(hh.dZ p hp).tags hf with h1|h1|h1<;>rw[h0]at h1<;>cases h1
  ·have h0:=iY hh.mg hq;rcases(hh.dZ p hp).tags hf with h1|h1|h1<;>rw[h0]at h1<;>cases h1
structure ag3(w w':ay)(B xb n:Nat)(h:HS)(r:Rc)(jv:aA):Prop where
 at_:aH w' B xb n {h.qo jv (gp<|fB r)with ps:=kz h.ps r}
 fr:Fr (fun k=>k=xb\/h.jv.ownBlock=ae k) w w'
 OX:∀k,bY jv=ae k->h.jv.ownBlock=ae k\/w.heap.size<=k
def apk(hh:aH w B xb n h)(qI:h.br=false){r:Rc}{m:Nat}(hr:r.Small m)(hm:m<1000000000000)(hk:r.k=1\/r.k=2\/(r.k=3/\∃c:Bool,r.a=if c then 1 else 0)\/r.k=4)(hb:h.jb.length+16<=140737488355328):
 aW prog 118 #[az<|ae ⟨xb,4,af⟩,xq r] w fun e w'=>e=aV (aF true)/\∃jv,ag3 w w' B xb n h r jv:=by
 have HH:aj (aH w B xb n h):=hh;have HR:aj (r.Small m):=hr;have uy:aj (∀W,aW prog 171 #[xq r] W fun e w'=>∃v,e=aV v/\bD w' W.heap.size 5 1 v 16 (gp<|fB r)/\Fr aS W w'):=fun W=>abt W hr hm;have c4:=hh.cJ;obtain⟨ja,jc,hj,_⟩:=oP hh.mg;rw[hj]at c4;have JF:=hh.cB;rw[qI]at JF;have HJ:aj (h.jv=.slice ja h.jb.length jc):=hj;have HJR:aj (∀W,Fr aS w W->bD W B 5 1 (.slice ja h.jb.length jc) h.jb.length h.jb):=fun W f=>by rw[<-hj];exact f.ownsRow hh.mg fun _ _=>id
 have Xb:aj (ae xb≠Value.ownBlock (.slice ja h.jb.length jc)):=by show ae xb≠_;rw[<-hj];exact fun e=>hh.RY e.s
 have iC:=bn hh.blk;have SA:aj (h.jb.length+16<=140737488355328):=hb;obtain⟨i,hi⟩:=qY hr.p0;have jW:i<6:=by have:=hr.p1;omega
 obtain⟨x,hx⟩:∃x,h.ps[i]? =ae x:=⟨_,eY (by rw[hh.h6];exact jW)⟩;have HX:aj (h.ps[i]? =ae x):=hx;obtain⟨k,p,a,mm⟩:=r;simp only at hk hi;subst hi;have HK:aj (k=1\/k=2\/(k=3/\∃c:Bool,a=if c then 1 else 0)\/k=4):=hk;clear hk;obtain⟨i0,ed,iI,ig,jg⟩:=aFq abp;unfold xq;clear hh hj qI hr hb hx;go_enter func118,ntmps118
 go_wp2_with (first
  |(go_at_call 171;refine(show aW prog 171 #[xq ⟨k,i,a,mm⟩] _ _ from uy.o _).z ?_;rintro e w1 ⟨v1,rfl,jP,bU⟩
    have F1:aj (Fr aS w w1):=(bQ _).t bU dw
    obtain⟨g,gc,rfl,_⟩:=JE jP<|by decide
    have V1:aj (bD w1 (w.alloc<|aG #[ag ah k,ag ah i,ag ah a,ag ah mm] 184).heap.size 5 1 (aN (ae ⟨g,0,af⟩) 16 gc) 16<|gp<|fB ⟨k,i,a,mm⟩):=jP
    have d4:=(F1.o.cell (p:=⟨xb,4,af⟩) iC id).t c4
    have d66:=(F1.o.cell (p:=⟨xb,66,af⟩) iC id).t JF
    have df:∀o,w1.frozen? ⟨xb,o,af⟩=false:=kK<|(F1.o.block xb iC id).t HH.o.blk
    have BX:aj (w1.heap[w.heap.size]? =ae (aG #[ag ah k,ag ah i,ag ah a,ag ah mm] 184 (0,0))):=(bU.block _ (by simp) id).t<|aFb _ _
    have Xc:aj (bD w1 B 5 1 (.slice ja h.jb.length jc) h.jb.length h.jb):=HJR.o w1 F1.o
    have HNE:aj (ae xb≠Value.ownBlock (.slice ja h.jb.length jc)):=Xb.o
    have iJ:xb<w1.heap.size:=gu iC F1.o.size
    clear jP bU)
  |(at_builtin;refine aFE _ rfl _ _ 99 rfl B 5 i0 _ 1 1 underlying99 ed iI ig jg rfl (by decide) (.slice ja h.jb.length jc) h.jb.length h.jb rfl Xc.o ⟨g,0,af⟩ 16 gc (gp<|fB ⟨k,i,a,mm⟩) rfl (by rw[Ia,FI]) (V1.o.cells (g:=g) rfl) (ag1 _) (by decide) (by have:=SA.o;simp only[eP];omega) (by have:=SA.o;omega) (by have:=HH.o.hx;omega) w1.heap.size rfl ?_;intro gg cap w2 jf qG fC nH
    have G2:aj (w1.grownBy w2<|Value.ownBlock<|.slice ja h.jb.length jc):=qG
    have e4:=(qG.cell_far ⟨xb,4,af⟩ iJ HNE.o).t d4
    have ef:=(qG.frozen_far ⟨xb,4,af⟩ iJ HNE.o).t<|df 4))
 have hD:=HH.o.ag2 (jv:=aN (ae ⟨gg,0,af⟩) (h.jb.length+16) cap) (m:=16) (new:=gp<|fB ⟨k,i,a,mm⟩) F1.o (by rw[HJ.o];exact G2.o) jf (by rw[Ia,FI]) (fun q hq=>by
  simp only[Value.ownBlock,gU]at hq;subst hq;rcases fC with e|e
  ·exact .inl (by rw[HJ.o];exact e)
  ·exact .inr (by have:=F1.o.size;omega))
 have JG:aj (∀k,Value.ownBlock (aN (ae ⟨gg,0,af⟩) (h.jb.length+16) cap)=ae k->h.jv.ownBlock=ae k\/w.heap.size<=k):=fun q hq=>by
  simp only[Value.ownBlock,gU]at hq;subst hq;rcases fC with e|e
  ·exact .inl (by rw[HJ.o];exact e)
  ·exact .inr (by have:=F1.o.size;omega)
 have AP:(aX w2 ⟨xb,4,af⟩<|aN (ae ⟨gg,0,af⟩) (h.jb.length+16) cap).heap[w.heap.size]? =ae (aG #[ag ah k,ag ah i,ag ah a,ag ah mm] 184 (0,0)):=by
  rw[aFg _ _ _ _<|show w.heap.size≠xb by omega,G2.o.block w.heap.size (bn BX.o) (fun e=>by
   have h1:=Xc.o.lt w.heap.size e.s;have h2:=(HH.o.mg.lt w.heap.size (by rw[HJ.o];exact e.s)).2;omega)]
  exact BX.o
 generalize w2.setCell ⟨xb,4,af⟩ (aN (ae ⟨gg,0,af⟩) (h.jb.length+16) cap)=W at hD AP⊢
 generalize(Value.slice (ae ⟨gg,0,af⟩) (h.jb.length+16) cap)=jv at hD JG⊢
 have HW:aj (aH W B xb n<|h.qo jv<|gp<|fB ⟨k,i,a,mm⟩):=hD.1;have FW:aj (Fr (fun k=>k=xb\/h.jv.ownBlock=ae k) w W):=hD.2;have qO:aj (W.heap[w.heap.size]? =ae (aG #[ag ah k,ag ah i,ag ah a,ag ah mm] 184 (0,0))):=AP;have Xd:aj ((h.qo jv<|gp<|fB ⟨k,i,a,mm⟩).ps[i]? =ae x):=HX.o;clear hD AP jf qG fC nH e4 ef d4 d66 df;rcases HK.o with rfl|rfl|⟨rfl,c,hc⟩|rfl
 ·have hix:=apf;go_region_held3 (fun w'=>aB w' ⟨w.heap.size,0,af⟩=ae (ag ah 1)/\aB w' ⟨w.heap.size,1,af⟩=ae (ag ah i)/\aB w' ⟨w.heap.size,2,af⟩=ae (ag ah a)/\aB w' ⟨w.heap.size,3,af⟩=ae (ag ah mm))
   (first|with_reducible exact C2|with_reducible exact C3|exact⟨aQ qO.o 0,aQ qO.o 1,aQ qO.o 2,aQ qO.o 3⟩|go_keep)
   (first
     |(go_at_call 128;refine(O3 (w:=W.drew) _).z ?_;rintro e w3 ⟨rfl,mQ,lM⟩
       have F3:aj (Fr aS W w3):=(dR.drew:Fr aS W W.drew).t lM dw
       have B3:aj (xn w3 W.drew.heap.size xb):=mQ
       have x3:=(F3.o.block _ (bn qO.o) id).t qO.o
       have C2:aB w3 ⟨w.heap.size,0,af⟩=ae (ag ah 1)/\aB w3 ⟨w.heap.size,1,af⟩=ae (ag ah i)/\aB w3 ⟨w.heap.size,2,af⟩=ae (ag ah a)/\aB w3 ⟨w.heap.size,3,af⟩=ae (ag ah mm):=⟨aQ x3 0,aQ x3 1,aQ x3 2,aQ x3 3⟩
       have X3:aj (w3.heap[w.heap.size]? =ae (aG #[ag ah 1,ag ah i,ag ah a,ag ah mm] 184 (0,0))):=x3
       clear mQ lM x3)
     |(go_at_call 179;refine(agL (HW.o.a F3.o) B3.o jW Xd.o 1 a mm).z ?_;rintro e w4 ⟨rfl,h4,qW⟩
       have H4:aj (aH w4 B xb n<|(h.qo jv<|gp<|fB ⟨1,i,a,mm⟩).eH i {x with e:=mm}):=h4
       have F4:aj (Fr (fun k=>k=xb) w3 w4):=qW
       have x4:=(qW.block _ (bn X3.o)<|show¬w.heap.size=xb by omega).t X3.o
       have C3:aB w4 ⟨w.heap.size,0,af⟩=ae (ag ah 1)/\aB w4 ⟨w.heap.size,1,af⟩=ae (ag ah i)/\aB w4 ⟨w.heap.size,2,af⟩=ae (ag ah a)/\aB w4 ⟨w.heap.size,3,af⟩=ae (ag ah mm):=⟨aQ x4 0,aQ x4 1,aQ x4 2,aQ x4 3⟩
       clear h4 qW x4))
  go_wp2_with fail
  go_ret;refine⟨rfl,jv,?_,(FW.o.t F3.o dw).t F4.o fun _ e=>.inl<|.inl e,JG.o⟩;rw[O7 (r:=⟨1,i,a,mm⟩) (jv:=jv) (new:=gp<|fB ⟨1,i,a,mm⟩) HX.o rfl];exact H4.o
 ·obtain⟨q,hq⟩:=qY HR.o.a0;simp only at hq;subst hq;have nT:q<4:=by have:=HR.o.a1;simp only at this;omega
  have hix:=apg;go_region_held3 (fun w'=>aB w' ⟨w.heap.size,0,af⟩=ae (ag ah 2)/\aB w' ⟨w.heap.size,1,af⟩=ae (ag ah i)/\aB w' ⟨w.heap.size,2,af⟩=ae (ag ah q)/\aB w' ⟨w.heap.size,3,af⟩=ae (ag ah mm))
   (first|with_reducible exact C2|with_reducible exact C3|exact⟨aQ qO.o 0,aQ qO.o 1,aQ qO.o 2,aQ qO.o 3⟩|go_keep)
   (first
     |(go_at_call 128;refine(O3 (w:=W.drew) _).z ?_;rintro e w3 ⟨rfl,mQ,lM⟩
       have F3:aj (Fr aS W w3):=(dR.drew:Fr aS W W.drew).t lM dw
       have B3:aj (xn w3 W.drew.heap.size xb):=mQ
       have x3:=(F3.o.block _ (bn qO.o) id).t qO.o
       have C2:aB w3 ⟨w.heap.size,0,af⟩=ae (ag ah 2)/\aB w3 ⟨w.heap.size,1,af⟩=ae (ag ah i)/\aB w3 ⟨w.heap.size,2,af⟩=ae (ag ah q)/\aB w3 ⟨w.heap.size,3,af⟩=ae (ag ah mm):=⟨aQ x3 0,aQ x3 1,aQ x3 2,aQ x3 3⟩
       have X3:aj (w3.heap[w.heap.size]? =ae (aG #[ag ah 2,ag ah i,ag ah q,ag ah mm] 184 (0,0))):=x3
       clear mQ lM x3)
     |(go_at_call 180;refine(agM (HW.o.a F3.o) B3.o jW nT Xd.o 2 mm).z ?_;rintro e w4 ⟨rfl,h4,qW⟩
       have H4:aj (aH w4 B xb n<|(h.qo jv<|gp<|fB ⟨2,i,q,mm⟩).eH i<|({x with s:=1,t:=mm}:PS).tie q 1):=h4
       have F4:aj (Fr (fun k=>k=xb) w3 w4):=qW
       have x4:=(qW.block _ (bn X3.o)<|show¬w.heap.size=xb by omega).t X3.o
       have C3:aB w4 ⟨w.heap.size,0,af⟩=ae (ag ah 2)/\aB w4 ⟨w.heap.size,1,af⟩=ae (ag ah i)/\aB w4 ⟨w.heap.size,2,af⟩=ae (ag ah q)/\aB w4 ⟨w.heap.size,3,af⟩=ae (ag ah mm):=⟨aQ x4 0,aQ x4 1,aQ x4 2,aQ x4 3⟩
       clear h4 qW x4))
  go_wp2_with fail
  go_ret;refine⟨rfl,jv,?_,(FW.o.t F3.o dw).t F4.o fun _ e=>.inl<|.inl e,JG.o⟩;rw[O7 (r:=⟨2,i,q,mm⟩) (jv:=jv) (new:=gp<|fB ⟨2,i,q,mm⟩) HX.o rfl];exact H4.o
 ·have HC:aj (a=if c then 1 else 0):=hc;clear hc;have hix:=aph;go_region_held3 (fun w'=>aB w' ⟨w.heap.size,0,af⟩=ae (ag ah 3)/\aB w' ⟨w.heap.size,1,af⟩=ae (ag ah i)/\aB w' ⟨w.heap.size,2,af⟩=ae (ag ah a)/\aB w' ⟨w.heap.size,3,af⟩=ae (ag ah mm))
   (first|with_reducible exact C2|with_reducible exact C3|exact⟨aQ qO.o 0,aQ qO.o 1,aQ qO.o 2,aQ qO.o 3⟩|go_keep)
   (first
     |(go_at_call 128;refine(O3 (w:=W.drew) _).z ?_;rintro e w3 ⟨rfl,mQ,lM⟩
       have F3:aj (Fr aS W w3):=(dR.drew:Fr aS W W.drew).t lM dw
       have B3:aj (xn w3 W.drew.heap.size xb):=mQ
       have x3:=(F3.o.block _ (bn qO.o) id).t qO.o
       have C2:aB w3 ⟨w.heap.size,0,af⟩=ae (ag ah 3)/\aB w3 ⟨w.heap.size,1,af⟩=ae (ag ah i)/\aB w3 ⟨w.heap.size,2,af⟩=ae (ag ah a)/\aB w3 ⟨w.heap.size,3,af⟩=ae (ag ah mm):=⟨aQ x3 0,aQ x3 1,aQ x3 2,aQ x3 3⟩
       have X3:aj (w3.heap[w.heap.size]? =ae (aG #[ag ah 3,ag ah i,ag ah a,ag ah mm] 184 (0,0))):=x3
       clear mQ lM x3)
     |(go_at_call 181;refine(abm (HW.o.a F3.o) B3.o jW Xd.o 3 mm (c:=c) (s':=if c then 2 else 3) HC.o rfl).z ?_;rintro e w4 ⟨rfl,h4,qW⟩
       have H4:aj (aH w4 B xb n<|(h.qo jv<|gp<|fB ⟨3,i,a,mm⟩).eH i ({({x with s:=if c then 2 else 3}:PS).pend (bZ x.bG 1 4)with wa:=1,ga:=1}:PS)):=h4
       have F4:aj (Fr (fun k=>k=xb) w3 w4):=qW
       have x4:=(qW.block _ (bn X3.o)<|show¬w.heap.size=xb by omega).t X3.o
       have C3:aB w4 ⟨w.heap.size,0,af⟩=ae (ag ah 3)/\aB w4 ⟨w.heap.size,1,af⟩=ae (ag ah i)/\aB w4 ⟨w.heap.size,2,af⟩=ae (ag ah a)/\aB w4 ⟨w.heap.size,3,af⟩=ae (ag ah mm):=⟨aQ x4 0,aQ x4 1,aQ x4 2,aQ x4 3⟩
       clear h4 qW x4))
  go_wp2_with fail
  go_ret;refine⟨rfl,jv,?_,(FW.o.t F3.o dw).t F4.o fun _ e=>.inl<|.inl e,JG.o⟩;have he:({({x with s:=if c then 2 else 3}:PS).pend (bZ x.bG 1 4)with wa:=1,ga:=1}:PS)=x.dA ⟨3,i,a,mm⟩:=by
   have:=ag0 ({x with s:=if c then 2 else 3}:PS);rw[show({x with s:=if c then 2 else 3}:PS).bG=x.bG from rfl]at this;rw[this,HC.o];cases c<;>rfl
  rw[O7 (r:=⟨3,i,a,mm⟩) (jv:=jv) (new:=gp<|fB ⟨3,i,a,mm⟩) HX.o rfl,<-he];exact H4.o
 ·have hix:=api;go_region_held3 (fun w'=>aB w' ⟨w.heap.size,0,af⟩=ae (ag ah 4)/\aB w' ⟨w.heap.size,1,af⟩=ae (ag ah i)/\aB w' ⟨w.heap.size,2,af⟩=ae (ag ah a)/\aB w' ⟨w.heap.size,3,af⟩=ae (ag ah mm))
   (first|with_reducible exact C2|with_reducible exact C3|exact⟨aQ qO.o 0,aQ qO.o 1,aQ qO.o 2,aQ qO.o 3⟩|go_keep)
   (first
     |(go_at_call 128;refine(O3 (w:=W.drew) _).z ?_;rintro e w3 ⟨rfl,mQ,lM⟩
       have F3:aj (Fr aS W w3):=(dR.drew:Fr aS W W.drew).t lM dw
       have B3:aj (xn w3 W.drew.heap.size xb):=mQ
       have x3:=(F3.o.block _ (bn qO.o) id).t qO.o
       have C2:aB w3 ⟨w.heap.size,0,af⟩=ae (ag ah 4)/\aB w3 ⟨w.heap.size,1,af⟩=ae (ag ah i)/\aB w3 ⟨w.heap.size,2,af⟩=ae (ag ah a)/\aB w3 ⟨w.heap.size,3,af⟩=ae (ag ah mm):=⟨aQ x3 0,aQ x3 1,aQ x3 2,aQ x3 3⟩
       have X3:aj (w3.heap[w.heap.size]? =ae (aG #[ag ah 4,ag ah i,ag ah a,ag ah mm] 184 (0,0))):=x3
       clear mQ lM x3)
     |(go_at_call 182;refine(agP (HW.o.a F3.o) B3.o jW Xd.o 4 a mm).z ?_;rintro e w4 ⟨rfl,h4,qW⟩
       have H4:aj (aH w4 B xb n<|(h.qo jv<|gp<|fB ⟨4,i,a,mm⟩).eH i ⟨x.e,x.t,0,0,0,0,0,0,0,0⟩):=h4
       have F4:aj (Fr (fun k=>k=xb) w3 w4):=qW
       have x4:=(qW.block _ (bn X3.o)<|show¬w.heap.size=xb by omega).t X3.o
       have C3:aB w4 ⟨w.heap.size,0,af⟩=ae (ag ah 4)/\aB w4 ⟨w.heap.size,1,af⟩=ae (ag ah i)/\aB w4 ⟨w.heap.size,2,af⟩=ae (ag ah a)/\aB w4 ⟨w.heap.size,3,af⟩=ae (ag ah mm):=⟨aQ x4 0,aQ x4 1,aQ x4 2,aQ x4 3⟩
       clear h4 qW x4))
  go_wp2_with fail
  go_ret;refine⟨rfl,jv,?_,(FW.o.t F3.o dw).t F4.o fun _ e=>.inl<|.inl e,JG.o⟩;rw[O7 (r:=⟨4,i,a,mm⟩) (jv:=jv) (new:=gp<|fB ⟨4,i,a,mm⟩) HX.o rfl];exact H4.o
structure abv(w w':ay)(B xb n:Nat)(h:HS)(r:Rc)(kk:Nat)(jv:aA):Prop where
 at_:aH w' B xb n (h.qo jv<|gp<|(fB r).take kk).yx
 fr:Fr (fun k=>k=xb\/h.jv.ownBlock=ae k) w w'
 OX:∀k,bY jv=ae k->h.jv.ownBlock=ae k\/w.heap.size<=k
variable{r:Rc}{m:Nat}
def apl(hh:aH w B xb n h)(qI:h.br=true){kk:Nat}(NZ:h.kp=kk)(aCq:kk<=16)(sU:0<kk)(hr:r.Small m)(hm:m<1000000000000)(hb:h.jb.length+16<=140737488355328):
 aW prog 118 #[az<|ae ⟨xb,4,af⟩,xq r] w fun e w'=>e=aV (aF false)/\∃jv,abv w w' B xb n h r kk jv:=by
 have HH:aj (aH w B xb n h):=hh;have uy:aj (∀W,aW prog 171 #[xq r] W fun e w'=>∃v,e=aV v/\bD w' W.heap.size 5 1 v 16 (gp<|fB r)/\Fr aS W w'):=fun W=>abt W hr hm;have c4:=hh.cJ;obtain⟨ja,jc,hj,_⟩:=oP hh.mg;rw[hj]at c4;have JF:=hh.cB;rw[qI]at JF;have SB:=hh.cK;rw[NZ]at SB;have HJ:aj (h.jv=.slice ja h.jb.length jc):=hj;have HJR:aj (∀W,Fr aS w W->bD W B 5 1 (.slice ja h.jb.length jc) h.jb.length h.jb):=fun W f=>by rw[<-hj];exact f.ownsRow hh.mg fun _ _=>id
 have Xb:aj (ae xb≠Value.ownBlock (.slice ja h.jb.length jc)):=by show ae xb≠_;rw[<-hj];exact fun e=>hh.RY e.s
 have iC:=bn hh.blk;have SA:aj (h.jb.length+16<=140737488355328):=hb;have hBw:B<=w.heap.size:=aaN<|aaE hh.hx iC;have LP:aj (((fB r).take kk).length=kk):=by show((fB r).take kk).length=kk;rw[LC,FI];omega
 have FK:aj (∀j u,(gp<|(fB r).take kk)[j]? =ae u->(gp<|fB r)[j]? =ae u):=fun j u hu=>by
  simp only[gp,List.map_take]at hu⊢
  rw[List.getElem?_take]at hu;split at hu
  ·exact hu
  ·cases hu
 obtain⟨k,p,a,mm⟩:=r;obtain⟨i0,ed,iI,ig,jg⟩:=aFq abp;unfold xq;have aCr:(0:Int)<=(kk:Int):=by omega
 have aCs:(kk:Int)<=16:=by omega
 clear hh hj qI hr hb NZ;go_enter func118,ntmps118
 go_wp2_with (first
  |(go_at_call 171;refine(show aW prog 171 #[xq ⟨k,p,a,mm⟩] _ _ from uy.o _).z ?_;rintro e w1 ⟨v1,rfl,jP,bU⟩
    have F1:aj (Fr aS w w1):=(bQ _).t bU dw
    obtain⟨g,gc,rfl,hgc⟩:=JE jP<|by decide
    have V1:aj (bD w1 (w.alloc<|aG #[ag ah k,ag ah p,ag ah a,ag ah mm] 184).heap.size 5 1 (aN (ae ⟨g,0,af⟩) 16 gc) 16<|gp<|fB ⟨k,p,a,mm⟩):=jP
    have d4:=(F1.o.cell (p:=⟨xb,4,af⟩) iC id).t c4
    have d66:=(F1.o.cell (p:=⟨xb,66,af⟩) iC id).t JF
    have d67:=(F1.o.cell (p:=⟨xb,67,af⟩) iC id).t SB
    have df:∀o,w1.frozen? ⟨xb,o,af⟩=false:=kK<|(F1.o.block xb iC id).t HH.o.blk
    have Xc:aj (w1.drew.ownsRow B 5 1 (.slice ja h.jb.length jc) h.jb.length h.jb):=HJR.o w1.drew F1.o.drew
    have iJ:xb<w1.heap.size:=gu iC F1.o.size
    have aCt:w.heap.size<=w1.heap.size:=F1.o.size
    have aCu:(kk:Int)<=(gc:Int):=by omega
    clear jP bU))
 go_region_law
  ((refine aFH _ (by rfl) _ _ _ (by rfl) B 5 i0 _ 1 1 underlying99 ed iI ig jg rfl (by omega) (.slice ja h.jb.length jc) h.jb.length h.jb (by rfl) Xc.o ⟨g,0,af⟩ kk gc (gp<|(fB ⟨k,p,a,mm⟩).take kk) (by rfl) (by rw[Ia,LP.o,Nat.mul_one]) (fun j u hu=>V1.o.cells (g:=g) rfl j u<|FK.o j u hu) (ag1 _) (by omega) (by have:=SA.o;simp only[eP];omega) (by have:=SA.o;omega) (by simp<;>omega) w1.heap.size (by rfl) ?_;intro gg cap w2 jf qG fC nH
    have e4:=(qG.cell_far ⟨xb,4,af⟩ iJ Xb.o).t d4
    have ef:=(qG.frozen_far ⟨xb,4,af⟩ iJ Xb.o).t<|df 4))
 all_goals
  have hD:=HH.o.ag2 (jv:=aN (ae ⟨gg,0,af⟩) (h.jb.length+kk) cap) (m:=kk) (new:=gp<|(fB ⟨k,p,a,mm⟩).take kk) F1.o.drew (by rw[HJ.o];exact qG) jf (by rw[Ia,LP.o]) (fun q hq=>by
   simp only[Value.ownBlock,gU]at hq;subst hq;rcases fC with e|e
   ·exact .inl (by rw[HJ.o];exact e)
   ·exact .inr<|by omega)
  have JG:aj (∀k,Value.ownBlock (aN (ae ⟨gg,0,af⟩) (h.jb.length+kk) cap)=ae k->h.jv.ownBlock=ae k\/w.heap.size<=k):=fun q hq=>by
   simp only[Value.ownBlock,gU]at hq;subst hq;rcases fC with e|e
   ·exact .inl (by rw[HJ.o];exact e)
   ·exact .inr<|by omega
  generalize w2.setCell ⟨xb,4,af⟩ (aN (ae ⟨gg,0,af⟩) (h.jb.length+kk) cap)=W at hD⊢
  generalize(Value.slice (ae ⟨gg,0,af⟩) (h.jb.length+kk) cap)=jv at hD JG⊢
  have HW:aj (aH W B xb n<|h.qo jv<|gp<|(fB ⟨k,p,a,mm⟩).take kk):=hD.1
  have FW:aj (Fr (fun k=>k=xb\/h.jv.ownBlock=ae k) w W):=hD.2
  clear hD jf qG fC nH e4 ef d4 d66 d67 df
  go_wp2_with (go_at_call 104;refine(abd HW.o).z ?_;rintro e w3 ⟨rfl,h3,lM⟩;have H3:aj (aH w3 B xb n (h.qo jv<|gp<|(fB ⟨k,p,a,mm⟩).take kk).yx):=h3;have F3:aj (Fr (fun k=>k=xb) W w3):=lM;clear h3 lM)
  go_ret
  exact⟨rfl,jv,H3.o,FW.o.t F3.o fun _ e=>.inl<|.inl e,JG.o⟩
def apm(hh:aH w B xb n h)(qI:h.br=true)(NZ:h.kp=0)(hr:r.Small m)(hm:m<1000000000000):
 aW prog 118 #[az<|ae ⟨xb,4,af⟩,xq r] w fun e w'=>e=aV (aF false)/\∃jv,abv w w' B xb n h r 0 jv:=by
 have HH:aj (aH w B xb n h):=hh;have uy:aj (∀W,aW prog 171 #[xq r] W fun e w'=>∃v,e=aV v/\bD w' W.heap.size 5 1 v 16 (gp<|fB r)/\Fr aS W w'):=fun W=>abt W hr hm;have c4:=hh.cJ;obtain⟨ja,jc,hj,_⟩:=oP hh.mg;have ZP:h.jb.length<=jc:=by
  rcases hh.mg.2 with⟨hv,h0⟩|⟨g,cap,cur,hv,_,_,h1,_⟩
  ·omega
  ·rw[hj]at hv;simp only[aFi]at hv;omega
 rw[hj]at c4;have JF:=hh.cB;rw[qI]at JF;have SB:=hh.cK;rw[NZ]at SB;have HJ:aj (h.jv=.slice ja h.jb.length jc):=hj;have iC:=bn hh.blk;obtain⟨k,p,a,mm⟩:=r;unfold xq;clear hh hj qI hr NZ;cases ja;all_goals
  go_enter func118,ntmps118
  go_wp2_with (first
   |(go_at_call 171;refine(show aW prog 171 #[xq ⟨k,p,a,mm⟩] _ _ from uy.o _).z ?_;rintro e w1 ⟨v1,rfl,jP,bU⟩
     have F1:aj (Fr aS w w1):=(bQ _).t bU dw
     obtain⟨g,gc,rfl,hgc⟩:=JE jP<|by decide
     have d4:=(F1.o.cell (p:=⟨xb,4,af⟩) iC id).t c4
     have d66:=(F1.o.cell (p:=⟨xb,66,af⟩) iC id).t JF
     have d67:=(F1.o.cell (p:=⟨xb,67,af⟩) iC id).t SB
     have df:∀o,w1.frozen? ⟨xb,o,af⟩=false:=kK<|(F1.o.block xb iC id).t HH.o.blk
     have aCv:¬gc=0:=by omega
     clear jP bU))
  go_region
  go_wp2_with fail
  rw[<-HJ.o]
  have hA:=HH.o.a F1.o
  have fs:Fr (fun k=>k=xb) w1 (aX w1 ⟨xb,4,af⟩ h.jv).drew:=((Fr.refl (fun k=>k=xb) w1).setCell (p:=⟨xb,4,af⟩) (.inl rfl) _).drew
  have hW:aH (aX w1 ⟨xb,4,af⟩ h.jv).drew B xb n h:=hA.put fs (by
   show(aX w1 ⟨xb,4,af⟩ h.jv).heap[xb]? =_;rw[kU hA.blk,HS.agF]) rfl rfl rfl rfl rfl rfl rfl rfl hA.h6
  have HW:aj (aH (aX w1 ⟨xb,4,af⟩ h.jv).drew B xb n h):=hW
  have FW:aj (Fr (fun k=>k=xb) w1 (aX w1 ⟨xb,4,af⟩ h.jv).drew):=fs
  generalize(aX w1 ⟨xb,4,af⟩ h.jv).drew=W at HW FW⊢
  clear hW fs hA
  refine(abd HW.o).z ?_
  rintro e w3 ⟨rfl,h3,lM⟩
  have H3:aj (aH w3 B xb n h.yx):=h3
  have F3:aj (Fr (fun k=>k=xb) W w3):=lM
  clear h3 lM
  go_wp2_with fail
  go_ret
  refine⟨rfl,h.jv,?_,((F1.o.z dw:Fr (fun k=>k=xb\/h.jv.ownBlock=ae k) w w1).t FW.o fun _ e=>.inl<|.inl e).t F3.o fun _ e=>.inl<|.inl e,fun _ e=>.inl e⟩
  show aH w3 B xb n (h.qo h.jv []).yx
  rw[HS.apj]
  exact H3.o
end
def LZ{c:Int}(h1: -9223372036854775808<=c)(h2:c<=9223372036854775807):fO c:=by
 simpa[fO,Lit.wf,IntKind.min,IntKind.max,IntKind.signed,IntKind.bits]using And.intro h1 h2
section
def apK:(prog.info? 184).map (fun i=>(i.zero,i.size,i.bytes))=ae (ae<|iF #[ag ah 0,ag ah 0,ag ah 0,ag ah 0],4,32):=by kernel_rfl
variable{w:ay}{o n:Nat}{v:aA}{r:Rc}
def SL{b:Nat}(h:aB w ⟨b,o,af⟩=ae v):b<w.heap.size:=by
 rcases FB b w.heap.size with h1|h1
 ·exact h1
 ·simp[World.cell?,afM h1]at h
def abJ{W w3:ay}{ob:Obj}{row:Option Nat}(h:(W.drew.alloc ob).grownBy w3 row){g:Nat}(hg:g<W.heap.size)(dD:ae g≠row):aB w3 ⟨g,o,af⟩=aB W ⟨g,o,af⟩:=by
 have h1:w3.heap[g]? =(W.drew.alloc ob).heap[g]? :=h.block g (by simp<;>omega) dD;have h2:(W.drew.alloc ob).heap[g]? =W.heap[g]? :=aFe W.drew ob g hg;exact aFf<|h1.trans h2
def apL(h:r.Small n):∃t,fB r=UInt8.ofNat r.k.toNat::UInt8.ofNat r.p.toNat::UInt8.ofNat r.a.toNat::t:=by
 obtain⟨k0,k1,p0,p1,a0,a1,m0,m1⟩:=h;refine⟨kL 0 1++kL r.m.toNat 8++kL ((qN<|kM r).2*65536+(qN<|kM r).1).toNat 4,?_⟩;unfold fB;conv=>lhs;arg 1;unfold kM
 rw[Ib (by omega)<|by omega,Ib (by omega)<|by omega,Ib (by omega)<|by omega];simp only[CP,nY,wY]
def apM(h:r.Small n)(hn:n<1000000000000)(rest:List UInt8):numOf (((fB r++rest).drop 4).take 8)=r.m.toNat:=by
 have e:((fB r++rest).drop 4).take 8=kL r.m.toNat 8:=by
  unfold fB kM;obtain⟨k0,k1,p0,p1,a0,a1,m0,m1⟩:=h;rw[Ib (by omega)<|by omega,Ib (by omega)<|by omega,Ib (by omega)<|by omega];simp only[nY,wY,anL,List.drop_zero,kL];rw[show∀(a b c d e f g h:UInt8) (t:List UInt8),List.take 8 (a::b::c::d::e::f::g::h::t)=[a,b,c,d,e,f,g,h]from fun _ _ _ _ _ _ _ _ _=>rfl]
 rw[e];have:=h.m1;have:=h.m0;exact agS<|by omega
def apN(r:Rc)(rest:List UInt8):Sz (fB r++rest)=true:=by
 have h1:(fB r++rest).take 12=kM r:=by
  unfold fB;rw[CP,List.take_left'<|O4 r]
 have h2:((fB r++rest).drop 12).take 4=kL (oI<|kM r).toNat 4:=by
  unfold fB;rw[CP,List.drop_left'<|O4 r,List.take_left'<|Si _ _];rfl
 unfold Sz;rw[h1,h2];have fZ:=Sj<|kM r;have Vu:0<=oI (kM r):=by unfold oI;omega
 have as1:oI (kM r)<4294967296:=by unfold oI;omega
 rw[agS<|by omega];simp only[WN];omega
def Ef(L:List Rc):(L.flatMap fB).length=16*L.length:=by
 induction L with
 |nil=>rfl
 |cons r L ih=>simp only[pF,iW,ih,FI,oH];omega
def apO{B:Nat}{L:List Rc}{tl:List UInt8}(h:bD w B 5 1 v (L.flatMap fB++tl).length (gp<|L.flatMap fB++tl))(ht:tl.length<16)(hs:∀r∈L,r.Small n)(hn:n<1000000000000)(hL:L.length<100000000000):
 aW prog 127 #[v] w fun e w'=>∃v',e=aV v'/\bD w' w.heap.size 184 4 v' L.length (L.flatMap Rc.cs)/\Fr aS w w':=by
 obtain⟨i0,ed,iI,ig,jg⟩:=aFq apK;obtain⟨va,vc,hv,_⟩:=oP h;have hlen:(L.flatMap fB++tl).length=16*L.length+tl.length:=by rw[iW,Ef]
 obtain⟨yP,aAj⟩:∃yP,16*L.length+tl.length=yP:=⟨_,rfl⟩;have HS:aj (∀r∈L,r.Small n):=hs;have pW:0<yP->∃g,va=ae ⟨g,0,af⟩/\yP<=vc/\uB w g 0 (L.flatMap fB++tl):=fun h0=>by
  obtain⟨g,cap,hg,vP⟩:=JE h (by omega);rw[hv]at hg;simp only[aFi]at hg;obtain⟨rfl,_,rfl⟩:=hg;rw[hv]at h;exact⟨g,rfl,by omega,uB.agW h⟩
 have HM:aj (0<yP->∃g,va=ae ⟨g,0,af⟩/\yP<=vc/\uB w g 0 (L.flatMap fB++tl)):=pW;rw[hlen,aAj]at hv;subst hv;clear h pW hlen hs;go_enter func127,ntmps127
 go_wp2_with fail
 go_loopw [0,3] (fun b rv w'=>∃(j:Nat) (a:Option Addr) (c:Nat),j<=L.length/\b=.slice a (yP-16*j) c/\(0<yP-16*j->∃g,a=ae ⟨g,16*j,af⟩/\g<w.heap.size/\yP-16*j<=c/\uB w' g (16*j) ((L.drop j).flatMap fB++tl))/\bD w' w.heap.size 184 4 rv j ((L.take j).flatMap Rc.cs)/\Fr aS w w') (fun b _ _=>agm b)
 case atStart=>
  refine⟨0,va,vc,by omega,rfl,fun h0=>?_,aFm _ _ _ _,Fr.refl _ _⟩
  obtain⟨g,h1,h2,h3⟩:=HM.o h0
  obtain⟨x,hx⟩:∃x,(L.flatMap fB++tl)[0]? =ae x:=⟨_,eY (by rw[iW,Ef];omega)⟩
  exact⟨g,h1,SL<|h3 0 x hx,by omega,by simpa using h3⟩
 case round=>
  obtain⟨j,a,c,hj,rfl,hB,dG,dP⟩:=hrel
  have HF:aj (Fr aS w wr):=dP
  obtain⟨ra,rc,rfl,_⟩:=oP dG
  have HR:aj (bD wr w.heap.size 184 4 (.slice ra j rc) j<|(L.take j).flatMap Rc.cs):=dG
  by_cases aK:j<L.length
  ·obtain⟨r,hr⟩:∃r,L[j]? =ae r:=⟨_,eY aK⟩
   have rM:=HS.o r<|gZ hr
   have hd:L.drop j=r::L.drop (j+1):=by
    rw[List.drop_eq_getElem_cons aK];congr 1;rw[eY aK]at hr;exact rP hr
   obtain⟨g,rfl,hgw,hc,Jc⟩:=hB<|by omega
   rw[hd,pF,CP]at Jc
   obtain⟨rest,DL⟩:∃rest,(L.drop<|j+1).flatMap fB++tl=rest:=⟨_,rfl⟩
   rw[DL]at Jc
   have HBT:aj (uB wr g (16*j)<|fB r++rest):=Jc
   have zL:(fB r++rest).length=yP-16*j:=by
    rw[iW,FI,<-DL,iW,Ef,List.length_drop];omega
   have Vx:rest.length+16=yP-16*j:=by rw[<-zL,iW,FI];omega
   have Xi:aj (Sz (fB r++rest)=true):=apN r rest
   have uy:aj (aW prog 177 #[aN (ae ⟨g,16*j,af⟩) (yP-16*j) c] wr fun e w'=>e=aV (aF true)/\Fr aS wr w'):=by
    have:=ao9 Jc (by rw[zL];omega) (by rw[zL];exact hc);rw[Xi.o,zL]at this;exact this
   obtain⟨t,amd⟩:=apL rM
   rw[amd]at Jc
   have b0:=Jc 0 _ rfl
   rw[LD]at b0
   have b1:=Jc 1 _ rfl
   have b2:=Jc 2 _ rfl
   rw[toNat_one (by have:=rM.k0;omega) (by have:=rM.k1;omega)]at b0
   rw[toNat_one (by have:=rM.p0;omega) (by have:=rM.p1;omega)]at b1
   rw[toNat_one (by have:=rM.a0;omega) (by have:=rM.a1;omega)]at b2
   have HRN:aj (r.m=(r.m.toNat:Int)):=by show r.m=(r.m.toNat:Int);have:=rM.m0;omega
   have abK:aj (uB wr g (16*j+4)<|((fB r++rest).drop 4).take 8):=HBT.o.sub 4 8
   have HNL:aj ((((fB r++rest).drop 4).take 8).length=8):=by show(((fB r++rest).drop 4).take 8).length=8;simp[FI]<;>omega
   have HNV:aj (numOf (((fB r++rest).drop 4).take 8)=r.m.toNat):=apM rM hn rest
   have qk:eF ah r.k=r.k:=wrap_i64 (by have:=rM.k0;omega) (by have:=rM.k1;omega)
   have qp:eF ah r.p=r.p:=wrap_i64 (by have:=rM.p0;omega) (by have:=rM.p1;omega)
   have qa:eF ah r.a=r.a:=wrap_i64 (by have:=rM.a0;omega) (by have:=rM.a1;omega)
   have qm:eF ah r.m=r.m:=wrap_i64 (by have:=rM.m0;omega) (by have:=rM.m1;omega)
   have ui:aj (∀W,Fr aS wr W->∀cc,aW prog 178 #[aN (ae ⟨g,16*j+4,af⟩) 8 cc] W fun e w'=>e=aV (.int .u64 r.m)/\W=w'):=fun W f cc=>by
    have:=agU (w:=W) (cap:=cc) (fun q x hq=>(f.cell (p:=⟨g,16*j+4+q,af⟩) ?_ id).t<|abK.o q x hq) (by rw[HNL.o];decide)
    ·rw[HNL.o,HNV.o,<-HRN.o]at this;exact this
    ·exact SL<|abK.o q x hq
   have FK:aj ((L.take<|j+1).flatMap Rc.cs=(L.take j).flatMap Rc.cs++[ag ah r.k,ag ah r.p,ag ah r.a,ag ah r.m]):=by
    show(L.take<|j+1).flatMap Rc.cs=_;rw[yu,hr,CO,Hl];simp[Rc.cs]
   have vP:(16:Int)<=(c:Int):=by omega
   have aDw:(12:Int)<=(c:Int):=by omega
   have aCw:¬c=4:=by omega
   obtain⟨nn,QX⟩:∃nn,yP-16*j=nn:=⟨_,rfl⟩
   have fK:aj (yP-16*j=nn):=QX
   rw[QX]at uy hc Vx⊢
   have ZT:0<nn:=by omega
   have aCx:(0:Int)<nn:=by omega
   have yQ:(1:Int)<nn:=by omega
   have tq:(2:Int)<nn:=by omega
   have aDx:(16:Int)<=nn:=by omega
   clear Jc hB dP dG hd amd zL abK HNL HNV Xi QX
   go_wp2_with (go_at_call 177;(with_reducible refine uy.o.z ?_);rintro e w1 ⟨rfl,bU⟩;have F1:aj (Fr aS wr w1):=bU;have wR:g<w1.heap.size:=gu (SL b0) bU.size;have Xj:∀o,ae (Addr.block ⟨g,o,af⟩)≠Value.ownBlock (.slice ra j rc):=fun o e=>by{have:=(HR.o.lt g e.s).1;omega};have hgr:g<wr.heap.size:=SL b0;have hz:w.heap.size<=w1.heap.size:=fG HF.o.size bU.size;have d0:=(bU.cell (p:=⟨g,16*j,af⟩) hgr id).t b0;have d1:=(bU.cell (p:=⟨g,16*j+1,af⟩) hgr id).t b1;have d2:=(bU.cell (p:=⟨g,16*j+2,af⟩) hgr id).t b2;clear bU b0 b1 b2)
   have HQ:aj (∀w3,(w1.drew.alloc<|aG #[ag ah r.k,ag ah r.p,ag ah r.a,ag ah r.m] 184).grownBy w3 (Value.ownBlock<|.slice ra j rc)->aB w3 ⟨g,16*j,af⟩=ae (.int .u8 r.k)/\aB w3 ⟨g,16*j+1,af⟩=ae (.int .u8 r.p)/\aB w3 ⟨g,16*j+2,af⟩=ae (.int .u8 r.a)):=fun w3 hg=>
    ⟨(abJ hg wR<|Xj 0).t d0,(abJ hg wR<|Xj 0).t d1,(abJ hg wR<|Xj 0).t d2⟩
   go_region_held3 (fun w'=>aB w' ⟨g,16*j,af⟩=ae (.int .u8 r.k)/\aB w' ⟨g,16*j+1,af⟩=ae (.int .u8 r.p)/\aB w' ⟨g,16*j+2,af⟩=ae (.int .u8 r.a))
    (first|with_reducible exact⟨d0,d1,d2⟩|with_reducible exact Q|go_keep)
    (first
      |(go_at_call 178;refine(ui.o w1.drew F1.o.drew _).z ?_;rintro e w2 ⟨rfl,rfl⟩)
      |(refine aFH _ (by rfl) _ _ _ (by rfl) w.heap.size 184 i0 _ 4 32 underlying190 ed iI ig jg rfl (by omega) (.slice ra j rc) j ((L.take j).flatMap Rc.cs) (by rfl) ((F1.o.drew.alloc _).ownsRow HR.o fun _ _=>id) ⟨w1.heap.size,0,af⟩ 1 1 [ag ah r.k,ag ah r.p,ag ah r.a,ag ah r.m] (by rfl) (by rfl) (aFk (cs:=#[ag ah r.k,ag ah r.p,ag ah r.a,ag ah r.m]) (t:=184) (fr:=(0,0))<|aFb _ _) (by simp[Value.oneCell']) (by omega) (by simp only[eP];omega) (by omega) (by simp<;>omega) (w1.heap.size+1) (by simp) ?_;intro gg cap w3 jf qG fC uQ;have Q:=HQ.o w3 qG))
   go_wp2_with fail
   go_roundw
   case rel=>
    have QX:=fK.o
    have lM:Fr (fun x=>Value.ownBlock (.slice ra j rc)=ae x) wr w3:=((F1.o.drew.alloc _).z dw:Fr (fun x=>Value.ownBlock (.slice ra j rc)=ae x) wr _).grown qG fun x ex=>.inl ex
    refine⟨j+1,_,_,by omega,by rw[show yP-16*(j+1)=nn-16 by omega],fun h0=>⟨g,?_,hgw,by omega,fun q x hq=>?_⟩,?_,HF.o.t lM fun x hx=>.inr (HR.o.lt x hx).1⟩
    ·rw[if_neg<|by omega]
     rfl
    ·rw[DL]at hq
     have h1:=HBT.o (16+q) x (by rw[yj (by rw[FI];omega),FI,Nat.add_sub_cancel_left];exact hq)
     rw[show 16*(j+1)+q=16*j+(16+q)by omega]
     exact(aFf<|lM.block g (SL h1) fun e=>Xj 0 e.s).t h1
    ·rw[FK.o]
     exact jf
   case measure=>simp[agm]<;>omega
  ·have HJ:aj (j=L.length):=by show j=L.length;omega
   obtain⟨nn,ZU⟩:∃nn,yP-16*j=nn:=⟨_,rfl⟩
   have QX:nn<16:=by omega
   rw[ZU]
   have HT:aj (L.take j=L):=Fp<|by omega
   have uy:aj (aW prog 177 #[.slice a nn c] wr fun e w'=>e=aV (aF false)/\Fr aS wr w'):=ao8 wr a QX
   clear hB dP dG ZU aK
   go_wp2_with (go_at_call 177;(with_reducible refine uy.o.z ?_);rintro e w1 ⟨rfl,bU⟩;have F1:aj (Fr aS wr w1):=bU;clear bU)
   go_ret
   refine⟨_,rfl,?_,HF.o.t F1.o dw⟩
   have:=F1.o.ownsRow HR.o fun _ _=>id
   rw[HT.o]at this
   rw[<-HJ.o]
   exact this
end
