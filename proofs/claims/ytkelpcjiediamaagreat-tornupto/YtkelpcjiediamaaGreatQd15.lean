import Derived.Test.YtkelpcjiediamaaGreatQd13
import Derived.Test.YtkelpcjiediamaaGreatQd14
import Derived.Sort.OwnSortedInts
import Derived.Maps.RangeWalk
import Derived.Deep.MidRow
import Derived.Laws.ResultCell
set_option maxRecDepth 100000
set_option maxHeartbeats 0
set_option linter.all false
namespace Go.Proofs.YtkelpcjiediamaaGreat
def aEk:=@Go.bodyPost_ret
def aEz:=@Go.wpList_store_mid
def aFn:=@Go.World.cell?_alloc_past
open Go renaming Calls→aU,Program→eF,TypeId→dw,Value→az,World→aj,maxLen→dU,undef→ai
open Go.Ending renaming returned→aT
open Go.IntKind renaming i64→ah
open Go.Obj renaming cells→aC
open Go.RowKit renaming intOf→fH
open Go.Value renaming agg→gY,bool→aB,int→ag,pointer→ay,slice→aJ,string→dA,tuple→dK
open Option renaming none→af,some→ae
open Go.Proofs.Tryz
open Go.RowKit Go.Maps
section
def zI(x y:Int):Bool:=decide<|x<=y
variable{w:aj}{B:Nat}{v:az}
def anH{T:List Int}(h:w.ownsRow B 3 1 v T.length (gy T))(hl:T.length<4611686018427387904):
 aU prog 123 #[v] w fun e w'=>e=aT (dK #[])/\w'.ownsRow B 3 1 v T.length (gy<|T.mergeSort zI)/\w.grownBy w' v.ownBlock:=by
 rcases h.2 with⟨rfl,h0⟩|⟨g,cap,cur,rfl,hb,hg,h1,h2,h3,h4⟩
 ·have hT:T=[]:=aaf h0;subst hT;exact(anG af 0 w).mono fun e w' ⟨h1,h2⟩=>by subst h2;exact⟨h1,by simpa using h,World.grownBy.refl _ _⟩
 ·refine(slices_Sort_int g 0 cap T w (holds_of_blockI hg<|by simpa[gy]using h4) (aX hg) hl).mono fun e w' ⟨h5,n,os,h6⟩=>?_;subst h6;exact⟨h5,ownsRow_sortedI (by simp) hb hg h1 h2 h3,grownBy_sortedI _⟩
def BO{B':Nat}{ty:dw}{wd:Nat}{n:Nat}{xs:List az}(h:w.ownsRow B ty wd v n xs)(hB:B'<=B):w.ownsRow B' ty wd v n xs:=by
 refine⟨h.1,?_⟩;rcases h.2 with h1|⟨g,cap,cur,h1,h2,h3⟩
 ·exact .inl h1
 ·exact .inr ⟨g,cap,cur,h1,by omega,h3⟩
structure GX(nw:Int->Option (Int×Bool))(D:DataW az)(left:Lit->Bool)(T:List Int):Prop where
 nodup:T.Nodup
 wf:∀x∈T,eP x
 mem:∀x,eP x->(x∈T↔Maps.has D (.int .i64 x)=true/\left (.int .i64 x)=false/\∃t,nw x=ae (t,true))
def anI(x y:Int):(Lit.int .i64 y).sameKey (.int .i64 x)=decide (y=x):=by
 by_cases e:y=x
 ·subst e;rw[WideAt.sameKey_self<|by trivial];simp
 ·have:(Lit.int .i64 y).sameKey (.int .i64 x)=false:=by
   cases h:(Lit.int .i64 y).sameKey (.int .i64 x)
   ·rfl
   ·have:=WideAt.sameKey_eq h;cases this;exact absurd rfl e
  rw[this];simp[e]
def GX.start(nw:Int->Option (Int×Bool))(D:DataW az):GX nw D (Maps.has D) []:=
 ⟨List.nodup_nil,fun x h=>by simp at h,fun x _=>⟨fun h=>by simp at h,fun⟨h1,h2,_⟩=>by rw[h1]at h2;cases h2⟩⟩
def GX.step{nw:Int->Option (Int×Bool)}{D:DataW az}{left:Lit->Bool}{T:List Int}(h:GX nw D left T){x t:Int}{o:Bool}(hx:eP x)(hl:left (.int .i64 x)=true)(hh:Maps.has D (.int .i64 x)=true)(hn:nw x=ae (t,o)):
 GX nw D (fun z=>left z&& !z.sameKey (.int .i64 x)) (if o then T++[x]else T):=by
 have hxT:x∉T:=fun hm=>by
  have:=((h.mem x hx).1 hm).2.1;rw[hl]at this;cases this
 have ali:∀y,(left (.int .i64 y)&& !(Lit.int .i64 y).sameKey (.int .i64 x))=false↔left (.int .i64 y)=false\/y=x:=fun y=>by
  rw[anI];by_cases e:y=x<;>simp[e]
 cases o
 ·refine⟨h.nodup,h.wf,fun y hy=>?_⟩;rw[show(if false then T++[x]else T)=T from rfl,h.mem y hy,ali];constructor
  ·rintro⟨a,b,c⟩;exact⟨a,.inl b,c⟩
  ·rintro⟨a,b|b,c⟩
   ·exact⟨a,b,c⟩
   ·subst b;rw[hn]at c;obtain⟨t',c⟩:=c;cases c
 ·refine⟨?_,?_,fun y hy=>?_⟩
  ·rw[show(if true then T++[x]else T)=T++[x]from rfl,List.nodup_append];exact⟨h.nodup,by simp,fun a ha b hb=>by simp at hb;subst hb;intro e;subst e;exact hxT ha⟩
  ·intro y hy;rw[show(if true then T++[x]else T)=T++[x]from rfl]at hy;simp only[oP,oN]at hy;rcases hy with hy|rfl
   ·exact h.wf y hy
   ·exact hx
  ·rw[show(if true then T++[x]else T)=T++[x]from rfl,oP,oN,h.mem y hy,ali];constructor
   ·rintro(⟨a,b,c⟩|rfl)
    ·exact⟨a,.inl b,c⟩
    ·exact⟨hh,.inr rfl,t,hn⟩
   ·rintro⟨a,b|b,c⟩
    ·exact .inl ⟨a,b,c⟩
    ·exact .inr b
def anJ{T:List Int}(h:T.Nodup):(T.mergeSort zI).Pairwise (· < ·):=by
 have h1:(T.mergeSort zI).Pairwise fun a b=>zI a b=true:=List.pairwise_mergeSort (le:=zI) (fun a b c=>by simp[zI]<;>omega) (fun a b=>by simp[zI]<;>omega) T;have h2:(T.mergeSort zI).Nodup:=(am0 T zI).nodup_iff.2 h;have h3:=h1.and h2;exact h3.imp (fun⟨a,b⟩=>by simp[zI]at a;omega)
def aaF{c d:az}(h:(DataW.held c:DataW az)=.held d):c=d:=by cases h;rfl
def afO{lb bm n:Nat}{s:aH}(h:dY w B lb bm v n s)(hn:(n+1)*8<=140737488355328):
 aU prog 60 #[ay<|ae ⟨lb,0,af⟩] w fun e w'=>∃v' S,e=aT v'/\w'.ownsRow w.heap.size 3 1 v' S.length (gy S)/\Fr aP w w'/\S.Pairwise (· < ·)/\S.length<=n/\(∀x∈S,eP x)/\∀x,eP x->(x∈S↔∃t,s.nw x=ae (t,true)):=by
 obtain⟨i0,dR,iE,gG,iU⟩:=aEd V5;obtain⟨D,iO,hD⟩:=h.map;have c2:w.cell? ⟨lb,2,af⟩=ae (.map<|ae bm):=by rw[aK h.blk];rfl
 have hkD:∀x,eP x->(∀z,D.atKey (.int .i64 x) (.held z)=.held ((jw s.nw<|.int .i64 x).getD z))/\Maps.has D (.int .i64 x)=(jw s.nw<|.int .i64 x).isSome:=fun x hx=>hD (.int .i64 x) (.int .i64 x)<|aEN underlying3 hx;have HD:Hid (∀x,eP x->(∀z,D.atKey (.int .i64 x) (.held z)=.held ((jw s.nw<|.int .i64 x).getD z))/\Maps.has D (.int .i64 x)=(jw s.nw<|.int .i64 x).isSome):=hkD;have HO:Hid (w.ownsMap prog 3 vg bm n D):=iO;have HZ:Hid (Maps.size D<=n):=iO.size_le;have HN:Hid ((n+1)*8<=140737488355328):=hn;have hbm:=iO.lt;clear h hD hkD iO hn;go_enter func60,ntmps60
 go_wp2_with (at_range;refine wpList_range_own _ rfl _ 161 rfl 3 189 AV underlying161 vg bm n D rfl HO.o ?_;intro w0 alj BA zg;have HR0:Hid (w0.ranges prog 3 vg bm w.heap.size n D (Maps.has D)<|Maps.size D):=alj;have HG0:Hid (w.grownBy w0 af):=BA;clear alj BA zg)
 go_frame
 go_loopw [3] (fun o w'=>∃(left:Lit->Bool) (cnt:Nat) (T:List Int),w'.ranges prog 3 vg bm w.heap.size n D left cnt/\Fr aP w w'/\w'.ownsRow (w.heap.size+1) 3 1 o T.length (gy T)/\GX s.nw D left T/\T.length+cnt<=Maps.size D/\w.heap.size+1<=w'.heap.size) (fun _ w'=>w'.rangeLeft bm w.heap.size)
 case atStart=>exact⟨_,_,[],HR0.o,(Fr.refl _ _).grown HG0.o (fun k e=>by cases e),aD9 _ _ _ _,GX.start _ _,by simp,by have:=HR0.o.lt;omega⟩
 case round=>
  obtain⟨left,cnt,T,hrg,dO,iO,afQ,alm,eH⟩:=hrel
  have Jf:Hid (wr.ranges prog 3 vg bm w.heap.size n D left cnt):=hrg
  have HF:Hid (Fr aP w wr):=dO
  have HW:Hid (wr.ownsRow (w.heap.size+1) 3 1 u3 T.length<|gy T):=iO
  have HC:Hid (GX s.nw D left T):=afQ
  have QT:Hid (T.length+cnt<=Maps.size D):=alm
  have HSZ:Hid (w.heap.size+1<=wr.heap.size):=eH
  clear hrg dO iO afQ alm eH
  go_wp2_with (at_next;refine wpList_next_ranges _ rfl _ rfl 3 AV vg (Value.int .i64) id (fun key kl hk=>by obtain⟨x,hx,_⟩:=Maps.keyOf_int_inv underlying3 hk;exact⟨x,hx⟩) (fun v y hv=>⟨v,rfl⟩) bm w.heap.size n D left cnt rfl Jf.o ?_ ?_)
  ·intro Zd UI
   have HL:Hid (∀kl,left kl=false):=UI
   clear Zd UI
   have Lc:Hid (T.length<4611686018427387904):=by have:=QT.o;have:=HZ.o;have:=HN.o;show T.length<4611686018427387904;omega
   go_wp2_with (go_at_call 123;refine(anH HW.o Lc.o).mono ?_;rintro e w3 ⟨rfl,Ze,Zf⟩;have HO3:Hid (w3.ownsRow (w.heap.size+1) 3 1 u3 T.length<|gy<|T.mergeSort zI):=Ze;have HG3:Hid (wr.grownBy w3 u3.ownBlock):=Zf;clear Ze Zf)
   go_ret
   refine⟨_,T.mergeSort zI,rfl,by rw[List.length_mergeSort];exact BO HO3.o<|by omega,HF.o.grown HG3.o (fun k e=>.inr (by have:=(HW.o.lt k e).1;omega)),anJ HC.o.nodup,by rw[List.length_mergeSort];have:=QT.o;have:=HZ.o;omega,fun x hx=>HC.o.wf x<|(am0 T zI).mem_iff.1 hx,fun x hx=>?_⟩
   rw[(am0 T zI).mem_iff,HC.o.mem x hx]
   refine⟨fun h=>h.2.2,fun⟨t,ht⟩=>⟨?_,HL.o _,t,ht⟩⟩
   rw[(HD.o x hx).2];simp[jw,ht]
  ·intro x c kl yd yp w1 UJ lT uQ hv dX aln Zg vS IG hen
   obtain⟨x',ex,rfl,hwx⟩:=Maps.keyOf_int_inv underlying3 lT
   cases ex
   simp only[vg,gu,uD]at hv
   obtain⟨rfl,rfl⟩:=hv
   obtain⟨t,o,IE,rfl⟩:∃t o,s.nw x=ae (t,o)/\c=gY #[.int .i64 t,.bool o]:=by
    have h1:=fun z=>(dX<|.held z).symm.trans<|(HD.o x hwx).1 z;cases hq:s.nw x with
    |none=>
     have a:=aaF<|h1<|.bool true;have b:=aaF<|h1<|.bool false;simp only[jw,hq,Option.map_none,Option.getD_none]at a b;rw[a]at b;cases b
    |some to=>
     have a:=aaF<|h1<|.bool true;simp only[jw,hq,GM,ik]at a;exact⟨to.1,to.2,rfl,a⟩
   have HH:Hid (Maps.has D (.int .i64 x)=true):=by show Maps.has D (.int .i64 x)=true;rw[(HD.o x hwx).2];simp[jw,IE]
   have tH:Hid (GX s.nw D (fun z=>left z&& !z.sameKey (.int .i64 x))<|if o then T++[x]else T):=HC.o.step hwx uQ HH.o IE
   have HR1:Hid (w1.ranges prog 3 vg bm w.heap.size n D (fun z=>left z&& !z.sameKey (.int .i64 x)) UJ):=aln
   have La:Hid (Fr aP w w1):=HF.o.grown vS (fun k e=>by cases e;exact .inr<|dm _)
   have Ez:Hid (w1.ownsRow (w.heap.size+1) 3 1 u3 T.length<|gy T):=HW.o.kept vS<|.inr fun e=>row_ne_iter HW.o Jf.o e.symm
   have HS1:Hid (w.heap.size+1<=w1.heap.size):=eG HSZ.o vS.size
   have QU:Hid (UJ<cnt):=Zg
   try simp only[id]at hen
   try simp only[id]
   clear lT uQ dX aln Zg vS IG IE
   cases o
   ·go_wp2
    go_roundw
    case rel=>exact⟨_,UJ,T,HR1.o.alloc _,La.o.alloc _,Ez.o.alloc _,tH.o,by have:=QT.o;have:=QU.o;omega,by have:=HS1.o;simp<;>omega⟩
    case measure=>rw[(HR1.o.alloc _).left_eq,Jf.o.left_eq];exact QU.o
   ·have Lc:Hid (T.length+1<=n):=by have:=QT.o;have:=HZ.o;have:=QU.o;show T.length+1<=n;omega
    go_wp2_with (at_builtin;refine aEu _ rfl _ _ 43 rfl (w.heap.size+1) 3 i0 _ 1 8 underlying43 dR iE gG iU rfl (by decide) _ T.length (gy T) rfl (by exact(Ez.o.alloc _).alloc _) ⟨w1.heap.size+1,0,af⟩ 1 1 [.int .i64 x] rfl rfl (aD7 (cs:=#[.int .i64 x]) (t:=3) (fr:=(0,0))<|afA _ _ _) (by simp[Value.oneCell']) (by decide) (by have:=Lc.o;have:=HN.o;simp only[dU];omega) (by have:=Lc.o;have:=HN.o;omega) (by have:=HS1.o;simp<;>omega) (w1.heap.size+2) (by simp) ?_;intro gg Oq w3 pY mO vk uk)
    have HR3:Hid (w3.ranges prog 3 vg bm w.heap.size n D (fun z=>left z&& !z.sameKey (.int .i64 x)) UJ):=((HR1.o.alloc _).alloc _).kept mO (row_ne_low Ez.o<|by omega)<|row_ne_low Ez.o<|by omega
    have Di:Fr (fun z=>u3.ownBlock=ae z) w1 w3:=(((Fr.refl _ _).alloc _).alloc _).grown mO fun z ez=>.inl ez
    have HF3:Hid (Fr aP w w3):=La.o.trans Di fun z hz=>.inr (by have:=(Ez.o.lt z hz).1;omega)
    have HS3:Hid (w.heap.size+1<=w3.heap.size):=eG HS1.o Di.size
    have HW3:Hid (w3.ownsRow (w.heap.size+1) 3 1 (aJ (ae ⟨gg,0,af⟩) (T.length+1) Oq) (T++[x]).length<|gy<|T++[x]):=by unfold Hid;simpa[gy]using pY
    clear pY mO vk uk Di
    go_roundw
    case rel=>exact⟨_,UJ,T++[x],HR3.o,HF3.o,HW3.o,tH.o,by have:=QT.o;have:=QU.o;simp<;>omega,HS3.o⟩
    case measure=>rw[HR3.o.left_eq,Jf.o.left_eq];exact QU.o
end
def GY{w:aj}{B:Nat}{ty UK:dw}{wd:Nat}{v:az}{n b:Nat}{xs:List az}{cs:Array az}{fr:Nat×Nat}(h:w.ownsRow B ty wd v n xs)(hb:w.heap[b]? =ae (.cells cs UK fr))(dh:ty≠UK):v.ownBlock≠ae b:=by
 intro hk;rcases h.2 with⟨rfl,_⟩|⟨g,cap,cur,rfl,_,hg,_⟩
 ·simp[Value.ownBlock]at hk
 ·simp[Value.ownBlock]at hk;subst hk;rw[hg]at hb;cases hb;exact dh rfl
section
variable{B wd n g:Nat}{ty:dw}
def pq{w:aj}{v:az}{xs:List az}(h:w.ownsRow B ty wd v n xs):∃a cap,v=.slice a n cap/\n<=maxLen:=by
 rcases h.2 with⟨rfl,rfl⟩|⟨g,cap,cur,rfl,_,_,h1,h2,_⟩
 ·exact⟨af,0,rfl,mi _⟩
 ·exact⟨_,_,rfl,eG h1 h2⟩
def DN:List az->Nat->List az->List az
 |ys,_,[]=>ys
 |ys,o,a::r=>DN (ys.set o a) (o+1) r
def Jg:aj->Nat->Nat->List az->aj
 |w,_,_,[]=>w
 |w,g,o,a::r=>Jg (w.setCell ⟨g,o,af⟩ a) g (o+1) r
def aaH:∀(mc ys:List az) (o:Nat),(DN ys o mc).length=ys.length
 |[],_,_=>rfl
 |a::r,ys,o=>by simp[DN,aaH r]
def aaI:∀(mc ys:List az) (o q:Nat),o+mc.length<=ys.length->(DN ys o mc)[q]? =if o<=q/\q<o+mc.length then mc[q-o]? else ys[q]?
 |[],ys,o,q,_=>by
  rw[if_neg (by simp only[wB];omega)];rfl
 |a::r,ys,o,q,h=>by
  simp only[oq]at h;rw[DN,aaI r (ys.set o a) (o+1) q (by simp<;>omega)];by_cases e:q=o
  ·subst e;rw[if_neg<|by omega,if_pos (by simp only[oq];omega),mQ<|by omega];simp
  ·by_cases hq:o+1<=q/\q<o+1+r.length
   ·rw[if_pos hq,if_pos (by simp only[oq];omega),show q-o=(q-(o+1))+1 by omega];simp
   ·rw[if_neg hq,if_neg (by simp only[oq];omega),uZ<|by omega]
def aaJ{cap:Nat}:∀{mc:List az} {w:aj} {ys:List az} {o:Nat},w.ownsRow B ty wd (aJ (ae ⟨g,0,af⟩) n cap) n ys->o+mc.length<=n*wd->(Jg w g o mc).ownsRow B ty wd (aJ (ae ⟨g,0,af⟩) n cap) n (DN ys o mc)
 |[],_,_,_,h,_=>h
 |a::r,w,ys,o,h,hl=>by
  simp only[oq]at hl;exact aaJ (mc:=r) (w:=w.setCell ⟨g,o,af⟩ a) (ys:=ys.set o a) (o:=o+1) (afM h (j:=o) (by omega) a)<|by omega
def Fr.Jg{S:Nat->Prop}{a:aj}:∀{w:aj} (_:Fr S a w) (_:S g\/a.heap.size<=g) (o:Nat) (mc:List az),Fr S a (Jg w g o mc)
 |_,h,_,_,[]=>h
 |_,h,hg,o,u::r=>Fr.Jg (h.setCell (p:=⟨g,o,af⟩) hg u) hg (o+1) r
end
section
def tag(w:aj)(k:Nat):Nat:=
 match w.heap[k]? with
 |some (.cells _ ty _)=>ty
 |some (.map _ _)=>1000000
 |_=>2000000
variable{w:aj}{k B n lb bm:Nat}{ty:dw}{v:az}{s:aH}
def lM{cs:Array az}{fr:Nat×Nat}(h:w.heap[k]? =ae (.cells cs ty fr)):tag w k=ty:=by simp[tag,h]
def iK{wd:Nat}{xs:List az}(h:w.ownsRow B ty wd v n xs)(hk:v.ownBlock=ae k):tag w k=ty:=by
 rcases h.2 with⟨rfl,_⟩|⟨g,cap,cur,rfl,_,hg,_⟩
 ·simp[Value.ownBlock]at hk
 ·simp[Value.ownBlock]at hk;subst hk;exact lM hg
def afS{P:eF}{kt:dw}{b:Nat}{f:az->Option az}(h:jo w P kt b n f):tag w b=1000000:=by
 obtain⟨D,⟨es,clock,hb,_⟩,_⟩:=h;simp[tag,hb]
def BP(lb bm:Nat)(v:az)(k:Nat):Prop:=k=lb\/k=bm\/v.ownBlock=ae k
def dY.tags(h:dY w B lb bm v n s)(hk:BP lb bm v k):tag w k=163\/tag w k=1000000\/tag w k=55:=by
 rcases hk with rfl|rfl|hk
 ·exact .inl<|lM h.blk
 ·exact .inr<|.inl<|afS h.map
 ·exact .inr<|.inr<|iK h.row hk
def dY.stay{S:Nat->Prop}{w2:aj}(h:dY w B lb bm v n s)(f:Fr S w w2)(hS:∀k,S k->BP lb bm v k->False):dY w2 B lb bm v n s:=
 f.logAt h (fun e=>hS _ e<|.inl rfl) (fun e=>hS _ e<|.inr<|.inl rfl) (fun _ hk e=>hS _ e<|.inr<|.inr hk)
end
section
def ptr(b:Nat):Value:=ay<|ae ⟨b,0,af⟩
abbrev AX(w1 w':aj)(v:az)(l:List Int):Prop:=w'.ownsRow w1.heap.size 3 1 v l.length<|gy l
section
variable{w':aj}
end
end
section
structure PS where
 e:Int
 t:Int
 s:Int
 a:Int
 b:Int
 c:Int
 d:Int
 si:Int
 wa:Int
 ga:Int
def PS.cs(p:PS):List Value:=[ag ah p.e,ag ah p.t,ag ah p.s,ag ah p.a,ag ah p.b,ag ah p.c,ag ah p.d,ag ah p.si,ag ah p.wa,ag ah p.ga]
structure Ms where
 k:Int
 q:Int
 p:Int
 t:Int
 c:Bool
def Ms.cs(r:Ms):List Value:=[ag ah r.k,ag ah r.q,ag ah r.p,ag ah r.t,aB r.c]
structure PL where
 lb:Nat
 bm:Nat
 v:az
 s:aH
 out:Bool
def PL.cs(p:PL):List Value:=[ptr p.lb,aB p.out]
def pI(l:List PL):List Value:=l.flatMap PL.cs
structure HS where
 P:Int
 Q:Int
 T:Int
 K:Int
 jv:az
 jb:List az
 up:Bool
 ps:List PS
 br:Bool
 kp:Int
 pv:az
 pl:List PL
 fv:az
 fl:List Ms
def HS.cells(h:HS):List Value:=
 [ag ah h.P,ag ah h.Q,ag ah h.T,ag ah h.K,h.jv,aB h.up]++(h.ps.flatMap PS.cs++[aB h.br,ag ah h.kp,h.pv,h.fv])
def pJ:PS:=⟨0,0,0,0,0,0,0,0,0,0⟩
def wE:List PS:=[pJ,pJ,pJ,pJ,pJ,pJ]
structure aF(w:aj)(B xb n:Nat)(h:HS):Prop where
 blk:w.heap[xb]? =ae (.cells h.cells.toArray 111 (0,0))
 kT:w.ownsRow B 5 1 h.jv h.jb.length h.jb
 jU:w.ownsRow B 98 2 h.pv h.pl.length (pI h.pl)
 mV:w.ownsRow B 119 5 h.fv h.fl.length (h.fl.flatMap Ms.cs)
 ed:∀p∈h.pl,dY w B p.lb p.bm p.v n p.s
 hx:B<=xb
 hP:1<=h.P/\h.P<=6
 hQ:h.Q=h.pl.length/\1<=h.Q/\h.Q<=4
 h6:h.ps.length=6
def V6{α:Type}{l:List α}(h:l.length=6):∃a b c d e f,l=[a,b,c,d,e,f]:=by
 match l,h with
 |[a,b,c,d,e,f],_=>exact⟨a,b,c,d,e,f,rfl⟩
def Ou(cs:Array az)(o:Nat):List az->Array az
 |[]=>cs
 |v::r=>Ou (cs.setIfInBounds o v) (o+1) r
variable{b n B xb:Nat}{t:dw}{w w':aj}{h:HS}
def Jh{fr:Nat×Nat}:∀(vs:List az) (o:Nat) {w:aj} {cs:Array az},w.heap[b]? =ae (.cells cs t fr)->(w.setCells b o vs).heap[b]? =ae (.cells (Ou cs o vs) t fr)
 |[],_,_,_,h=>h
 |v::r,o,_,_,h=>by
  rw[World.setCells];exact Jh r (o+1)<|jT h o v
def Fr.setCells{S:Nat->Prop}{a:aj}(hb:S b\/a.heap.size<=b):∀(vs:List az) (o:Nat) {w:aj},Fr S a w->Fr S a (w.setCells b o vs)
 |[],_,_,h=>h
 |v::r,o,_,h=>by
  rw[World.setCells];exact Fr.setCells hb r (o+1)<|h.setCell (p:=⟨b,o,af⟩) hb v
def Ld{cs:Array az}(h:w.heap[b]? =ae (.cells cs t (0,0))){o:Nat}(hn:o+n<=cs.size):w.there b o n:=fun j hj=>by
 refine⟨?_,jS h _⟩;rw[aK h,GG<|by omega];rfl
def anP:(prog.info? 105).map (·.size)=ae 64:=by kernel_rfl
def HS.qY(h:HS):HS:={h with up:=false,ps:=wE,br:=false,kp:=0}
def V7(jv:az):List Value:=[jv,aB false]++(wE.flatMap PS.cs++[aB false,ag ah 0])
def V8(l:List PS):(l.flatMap PS.cs).length=l.length*10:=by
 induction l with
 |nil=>rfl
 |cons a r ih=>simp[oO,ih,PS.cs]<;>omega
def HS.size(h6:h.ps.length=6):h.cells.toArray.size=70:=by
 simp only[HS.cells,GK,iV,V8,h6,oq,wB]
def HS.anQ(h6:h.ps.length=6):Ou h.cells.toArray 4 (V7 h.jv)=h.qY.cells.toArray:=by
 obtain⟨P,Q,T,K,jv,jb,up,ps,br,kp,pv,pl,fv,fl⟩:=h;obtain⟨⟨e0,t0,s0,a0,b0,c0,d0,x0,y0,z0⟩,⟨e1,t1,s1,a1,b1,c1,d1,x1,y1,z1⟩,⟨e2,t2,s2,a2,b2,c2,d2,x2,y2,z2⟩,⟨e3,t3,s3,a3,b3,c3,d3,x3,y3,z3⟩,⟨e4,t4,s4,a4,b4,c4,d4,x4,y4,z4⟩,⟨e5,t5,s5,a5,b5,c5,d5,x5,y5,z5⟩,rfl⟩:=V6 h6;kernel_rfl
def aF.QV(hh:aF w B xb n h):h.jv.ownBlock≠ae xb:=fun e=>by
 have h1:=iK hh.kT e;rw[lM hh.blk]at h1;cases h1
def aF.aaL(hh:aF w B xb n h):h.pv.ownBlock≠ae xb:=fun e=>by
 have h1:=iK hh.jU e;rw[lM hh.blk]at h1;cases h1
def aF.aaM(hh:aF w B xb n h):h.fv.ownBlock≠ae xb:=fun e=>by
 have h1:=iK hh.mV e;rw[lM hh.blk]at h1;cases h1
def aF.Le(hh:aF w B xb n h){p:PL}(hp:p∈h.pl):¬BP p.lb p.bm p.v xb:=fun e=>by
 have h0:=lM hh.blk;rcases(hh.ed p hp).tags e with h1|h1|h1<;>rw[h0]at h1<;>cases h1
def aF.after(hh:aF w B xb n h)(f:Fr aP w w'):aF w' B xb n h:=
 ⟨(f.block xb (aX hh.blk) id).trans hh.blk,f.ownsRow hh.kT fun _ _=>id,f.ownsRow hh.jU fun _ _=>id,f.ownsRow hh.mV fun _ _=>id,fun p hp=>f.logAt (hh.ed p hp) id id fun _ _=>id,hh.hx,hh.hP,hh.hQ,hh.h6⟩
def aF.put{h':HS}(hh:aF w B xb n h)(f:Fr (fun k=>k=xb) w w')(hb:w'.heap[xb]? =ae (.cells h'.cells.toArray 111 (0,0)))(hj:h'.jv=h.jv)(Zh:h'.jb=h.jb)(iJ:h'.pv=h.pv)(iR:h'.pl=h.pl)(pz:h'.fv=h.fv)(BB:h'.fl=h.fl)(hP:h'.P=h.P)(hQ:h'.Q=h.Q)(h6:h'.ps.length=6):aF w' B xb n h':=
 ⟨hb,by rw[hj,Zh];exact f.ownsRow hh.kT (fun k hk e=>hh.QV (by subst e;exact hk)),by rw[iJ,iR];exact f.ownsRow hh.jU (fun k hk e=>hh.aaL (by subst e;exact hk)),by rw[pz,BB];exact f.ownsRow hh.mV (fun k hk e=>hh.aaM (by subst e;exact hk)),
  fun p hp=>by rw[iR]at hp;exact(hh.ed p hp).stay f (fun k e hf=>hh.Le hp (by subst e;exact hf)),hh.hx,by rw[hP];exact hh.hP,by rw[hQ,iR];exact hh.hQ,h6⟩
def aaN(hh:aF w B xb n h):
 aU prog 104 #[ay<|ae ⟨xb,4,af⟩] w fun e w'=>e=aT (dK #[])/\aF w' B xb n h.qY/\Fr (fun k=>k=xb) w w':=by
 have HH:Hid (aF w B xb n h):=hh;have k4:w.cell? ⟨xb,4,af⟩=ae h.jv:=by rw[aK hh.blk];rfl
 obtain⟨ja,jc,hj,_⟩:=pq hh.kT;rw[hj]at k4;have HTH:Hid (w.there xb 4 64):=Ld hh.blk (by rw[HS.size hh.h6];decide);have HJ:Hid (h.jv=.slice ja h.jb.length jc):=hj;have aI:=aX hh.blk;clear hh hj;go_enter func104,ntmps104
 go_wp2_with (refine aEz rfl 105 _ _ rfl xb 4 (V7<|.slice ja h.jb.length jc).toArray rfl rfl HTH.o anP (by simp[V7,PS.cs,pJ,wE,Value.oneCell']) ?_)
 go_end0
 have hc:=HS.anQ HH.o.h6;rw[HJ.o]at hc;have fr:Fr (fun k=>k=xb) w (w.setCells xb 4<|V7<|.slice ja h.jb.length jc):=Fr.setCells (S:=fun k=>k=xb) (.inl rfl) _ _<|Fr.refl _ _;refine⟨rfl,HH.o.put fr ?_ rfl rfl rfl rfl rfl rfl rfl rfl rfl,fr⟩;rw[<-hc];exact Jh _ _ HH.o.blk
end
section
section
variable{w:aj}{B xb n:Nat}{h:HS}
def aF.cP(hh:aF w B xb n h):w.cell? ⟨xb,0,af⟩=ae (ag ah h.P):=by rw[aK hh.blk];rfl
def aF.cJ(hh:aF w B xb n h):w.cell? ⟨xb,4,af⟩=ae h.jv:=by rw[aK hh.blk];rfl
def aF.cU(hh:aF w B xb n h):w.cell? ⟨xb,5,af⟩=ae (aB h.up):=by rw[aK hh.blk];rfl
def HS.c4{h:HS}(h6:h.ps.length=6):h.cells.toArray[66]? =ae (aB h.br)/\h.cells.toArray[67]? =ae (ag ah h.kp)/\h.cells.toArray[68]? =ae h.pv/\h.cells.toArray[69]? =ae h.fv:=by
 obtain⟨P,Q,T,K,jv,jb,up,ps,br,kp,pv,pl,fv,fl⟩:=h;obtain⟨p0,p1,p2,p3,p4,p5,rfl⟩:=V6 h6;exact⟨rfl,rfl,rfl,rfl⟩
def aF.cB(hh:aF w B xb n h):w.cell? ⟨xb,66,af⟩=ae (aB h.br):=by rw[aK hh.blk];exact(HS.c4 hh.h6).1
def aF.cK(hh:aF w B xb n h):w.cell? ⟨xb,67,af⟩=ae (ag ah h.kp):=by rw[aK hh.blk];exact(HS.c4 hh.h6).2.1
def aF.cV(hh:aF w B xb n h):w.cell? ⟨xb,68,af⟩=ae h.pv:=by rw[aK hh.blk];exact(HS.c4 hh.h6).2.2.1
def aF.cF(hh:aF w B xb n h):w.cell? ⟨xb,69,af⟩=ae h.fv:=by rw[aK hh.blk];exact(HS.c4 hh.h6).2.2.2
def aaO{m:Int}(h:¬0<=m):decide (0<=m)=false:=qW h
def AY(hh:aF w B xb n h)(m:Int):
 aU prog 64 #[ay<|ae ⟨xb,0,af⟩,ag ah m] w fun e w'=>e=aT (.bool<|decide<|0<=m/\m<h.P)/\w=w':=by
 have c0:=hh.cP;clear hh;by_cases h1:0<=m
 ·by_cases h2:m<h.P
  ·go_enter func64,ntmps64
   go_wp2
   go_ret;exact⟨by simp[h1,h2],rfl⟩
  ·go_enter func64,ntmps64
   go_wp2
   go_ret;exact⟨by simp[h2],rfl⟩
 ·go_enter func64,ntmps64
  go_wp2
  go_ret;exact⟨by rw[aaO<|by omega]<;>rfl,rfl⟩
def Ov(hh:aF w B xb n h)(m:Int):
 aU prog 50 #[ay<|ae ⟨xb,0,af⟩,ag ah m] w fun e w'=>e=aT (.bool<|decide<|0<=m/\m<h.pl.length)/\w=w':=by
 have c0:=hh.cV;obtain⟨pa,pc,hp,_⟩:=pq hh.jU;rw[hp]at c0;clear hh;by_cases h1:0<=m
 ·by_cases h2:m<h.pl.length
  ·go_enter func50,ntmps50
   go_wp2
   go_ret;exact⟨by simp[h1,h2],rfl⟩
  ·go_enter func50,ntmps50
   go_wp2
   go_ret;exact⟨by simp[h2],rfl⟩
 ·go_enter func50,ntmps50
  go_wp2
  go_ret;exact⟨by rw[aaO<|by omega]<;>rfl,rfl⟩
def PS.aZ(p:PS):List Int:=[p.a,p.b,p.c,p.d]
def bI(ts:List Int)(l:Int)(k:Nat):List Int:=((List.range k).filter fun i=>decide<|l<=ts.getD i 0).map Int.ofNat
def anS(ts:List Int)(l:Int)(k:Nat):bI ts l (k+1)=bI ts l k++(if l<=ts.getD k 0 then[(k:Int)]else[]):=by
 unfold bI;rw[aan,zD,Oe];congr 1;by_cases hl:l<=ts.getD k 0
 ·rw[if_pos hl,ae9<|by simpa using hl];rfl
 ·rw[if_neg hl,VM<|by simpa using hl];rfl
def aaP(ts:List Int)(l:Int)(k:Nat):(bI ts l k).length<=k:=by
 unfold bI;rw[EZ];exact eG (GH _ _)<|by simp
def anT(w:aj)(a b c d:Int):(Instr.index 100 (gY #[ag ah a,ag ah b,ag ah c,ag ah d])<|ag ah 0).run prog w=.ok (ag ah a) w:=by kernel_rfl
def anU(w:aj)(a b c d:Int):(Instr.index 100 (gY #[ag ah a,ag ah b,ag ah c,ag ah d])<|ag ah 1).run prog w=.ok (ag ah b) w:=by kernel_rfl
def anV(w:aj)(a b c d:Int):(Instr.index 100 (gY #[ag ah a,ag ah b,ag ah c,ag ah d])<|ag ah 2).run prog w=.ok (ag ah c) w:=by kernel_rfl
def anW(w:aj)(a b c d:Int):(Instr.index 100 (gY #[ag ah a,ag ah b,ag ah c,ag ah d])<|ag ah 3).run prog w=.ok (ag ah d) w:=by kernel_rfl
def anX(w:aj)(p:PS){k:Nat}(hk:k<4):(Instr.index 100 (gY #[ag ah p.a,ag ah p.b,ag ah p.c,ag ah p.d])<|ag ah k).run prog w=.ok (.int .i64<|p.aZ.getD k 0) w:=by
 match k,hk with
 |0,_=>exact anT w _ _ _ _
 |1,_=>exact anU w _ _ _ _
 |2,_=>exact anV w _ _ _ _
 |3,_=>exact anW w _ _ _ _
def Lh{b o:Nat}{p:PS}(hr:∀j v,p.cs[j]? =ae v->w.cell? ⟨b,o+j,af⟩=ae v)(l:Int):
 aU prog 69 #[ay<|ae ⟨b,o,af⟩,ag ah l] w fun e w'=>∃v,e=aT v/\AX w w' v (bI p.aZ l 4)/\Fr aP w w':=by
 obtain⟨i0,dR,iE,gG,iU⟩:=aEd V5;have k3:w.cell? ⟨b,o+3,af⟩=ae (ag ah p.a):=hr 3 _ rfl;have k4:w.cell? ⟨b,o+3+1,af⟩=ae (ag ah p.b):=hr 4 _ rfl;have k5:w.cell? ⟨b,o+3+2,af⟩=ae (ag ah p.c):=hr 5 _ rfl;have k6:w.cell? ⟨b,o+3+3,af⟩=ae (ag ah p.d):=hr 6 _ rfl;clear hr;go_enter func69,ntmps69
 go_wp2_with fail
 go_loopw [5,12] (fun v i w'=>∃k:Nat,k<=4/\i=ag ah k/\AX w w' v (bI p.aZ l k)/\Fr aP w w') (fun _ i _=>(4-fH i).toNat)
 case atStart=>exact⟨0,by omega,rfl,aD9 _ _ _ _,Fr.refl _ _⟩
 case round=>
  obtain⟨k,hk,rfl,hv,dO⟩:=hrel
  have HF:Hid (Fr aP w wr):=dO
  obtain⟨va,vc,rfl,Dj⟩:=kR hv
  have HV:Hid (wr.ownsRow w.heap.size 3 1 (.slice va (bI p.aZ l k).length vc) (bI p.aZ l k).length<|gy<|bI p.aZ l k):=hv
  have HL:Hid ((bI p.aZ l k).length<=k):=aaP _ _ _
  have HT:Hid (bI p.aZ l (k+1)=bI p.aZ l k++(if l<=p.aZ.getD k 0 then[(k:Int)]else[])):=anS _ _ _
  have eH:=dO.size
  clear dO hv Dj
  by_cases aI:k<4
  ·have ay8:=anX wr p aI
   generalize p.aZ.getD k 0=x at ay8 HT
   have zh:(k:Int)<4:=by omega
   by_cases hle:l<=x
   ·have Nl:Hid (bI p.aZ l (k+1)=bI p.aZ l k++[(k:Int)]):=by have:=HT.o;rw[if_pos hle]at this;exact this
    clear HT
    go_wp2_with (at_builtin;refine aEu _ rfl _ _ 43 rfl w.heap.size 3 i0 _ 1 8 underlying43 dR iE gG iU rfl (by decide) _ _ (gy<|bI p.aZ l k) rfl (by exact HV.o.alloc _) ⟨wr.heap.size,0,af⟩ 1 1 [ag ah k] rfl rfl (aD7 (cs:=#[ag ah k]) (t:=3) (fr:=(0,0))<|aDY _ _) (by simp[Value.oneCell']) (by decide) (by have:=HL.o;simp only[dU];omega) (by have:=HL.o;omega) (by simp<;>omega) (wr.heap.size+1) (by simp) ?_;intro gg Oq w3 pY mO vk uk)
    go_roundw
    case rel=>
     have Di:Fr (fun x=>Value.ownBlock (.slice va (bI p.aZ l k).length vc)=ae x) wr w3:=((Fr.refl _ _).alloc _).grown mO fun x ex=>.inl ex
     refine⟨k+1,by omega,by go_num,?_,HF.o.trans Di fun x hx=>.inr (HV.o.lt x hx).1⟩
     show w3.ownsRow _ _ _ _ _ _
     rw[Nl.o]
     simpa[gy]using pY
    case measure=>simp[fH]<;>omega
   ·have Nl:Hid (bI p.aZ l (k+1)=bI p.aZ l k):=by have:=HT.o;rw[if_neg hle,ql]at this;exact this
    clear HT
    go_wp2_with fail
    go_roundw
    case rel=>exact⟨k+1,by omega,by go_num,by rw[Nl.o];exact HV.o,HF.o⟩
    case measure=>simp[fH]<;>omega
  ·have xZ:k=4:=by omega
   subst xZ
   go_wp2
   go_ret
   exact⟨_,rfl,HV.o,HF.o⟩
end
end
section
def Ji{fn:Func}{p u:Tmp}{ty:dw}(h:fn.results=#[.cell p ty,.tmp u])(tmps:Array az)(w:aj)(g:Nat)(t:dw)(cs:Array az)(fr:Nat×Nat)(d:TypeDesc)
 (hp:tmps.getD p ai=ay (ae ⟨g,0,af⟩))(hg:w.heap[g]? =ae (.cells cs t fr))
 (hu:prog.underlying ty=ae d)(hd:d.isRow=true)(hi:(prog.info? ty).map (·.size)=ae cs.size):
 (results fn tmps).run prog w=.ok (dK #[.agg cs,tmps.getD u ai]) w:=by
 have:=run_loadVar_mid w g 0 ty cs.toList d (fun j v hv=>by rw[aK hg];simpa using hv) hu hd (by simpa using hi);rw[results_cell_tmp h,hp];simp[asAddr,Result.andThen,this]
def afT(w:aj){b b' o o':Nat}(u:az)(h:b≠b'):(w.setCell ⟨b',o',af⟩ u).cell? ⟨b,o,af⟩=w.cell? ⟨b,o,af⟩:=
 aD2 (aD3 w ⟨b',o',af⟩ u b h)
def Jj:(prog.info? 58).map (·.size)=ae 5:=by kernel_rfl
section
variable{w:aj}{B xb n:Nat}{h:HS}
def afU:∀(l:List PS) (k:Nat) (e:PS) (j:Nat),l[k]? =ae e->j<10->(l.flatMap PS.cs)[k*10+j]? =e.cs[j]?
 |[],k,e,j,h,_=>by simp at h
 |x::r,0,e,j,h,hj=>by
  simp only[xE,gu]at h;subst h;simp only[oO];rw[uz (by simp[PS.cs]<;>omega)];simp
 |x::r,k+1,e,j,h,hj=>by
  simp only[zB]at h;have:=afU r k e j h hj;simp only[oO]at this⊢
  rw[xC (by simp[PS.cs]<;>omega),<-this];congr 1;simp[PS.cs]<;>omega
variable{k:Nat}{p:PS}
def HS.anY{h:HS}(hp:h.ps[k]? =ae p)(j:Nat)(v:az)(hv:p.cs[j]? =ae v):h.cells.toArray[6+k*10+j]? =ae v:=by
 have hj:j<10:=(dM.1 hv).1;have hk:=(dM.1 hp).1;rw[afd,<-hv,<-afU h.ps k p j hp hj];unfold HS.cells;rw[xC (by simp<;>omega),uz (by rw[V8];simp only[oq,wB];omega)];congr 1;simp<;>omega
def aF.iY(hh:aF w B xb n h)(hp:h.ps[k]? =ae p)(j:Nat)(v:az)(hv:p.cs[j]? =ae v):w.cell? ⟨xb,6+k*10+j,af⟩=ae v:=by
 rw[aK hh.blk];exact HS.anY hp j v hv
def afV{w2:aj}{b o:Nat}{l:List az}(f:Fr aP w w2)(hb:b<w.heap.size)(hr:∀j v,l[j]? =ae v->w.cell? ⟨b,o+j,af⟩=ae v):∀j v,l[j]? =ae v->w2.cell? ⟨b,o+j,af⟩=ae v:=
 fun j v hv=>(f.cell (p:=⟨b,o+j,af⟩) hb id).trans<|hr j v hv
def anZ(hh:aF w B xb n h){m:Int}(hm:0<=m/\m<h.P)(hu:h.up=false):
 aU prog 30 #[ay<|ae ⟨xb,0,af⟩,ag ah m] w fun r w'=>r=aT (dK #[gY #[ag ah 0,ag ah 0,ag ah 0,aJ af 0 0,aJ af 0 0],ag ah 5])/\Fr aP w w':=by
 have HH:Hid (aF w B xb n h):=hh;have HM:Hid (decide (0<=m/\m<h.P)=true):=kF hm;have c5:=hh.cU;rw[hu]at c5;have aI:=aX hh.blk;clear hh hm hu;go_enter func30,ntmps30
 go_wp2_with (go_at_call 64;refine(AY (by exact HH.o.after<|bG _) m).mono ?_;rw[HM.o];rintro e w1 ⟨rfl,rfl⟩)
 refine aEk (Ji rfl _ _ _ 58 _ (0,0) _ rfl (aDY _ _) underlying58 rfl Jj) rfl ?_;exact⟨rfl,bG _⟩
def aaQ(hh:aF w B xb n h)(hm:(k:Int)<h.P)(hu:h.up=true)(hp:h.ps[k]? =ae p):
 aU prog 30 #[ay<|ae ⟨xb,0,af⟩,ag ah k] w fun r w'=>∃va vb,r=aT (dK #[gY #[ag ah p.e,ag ah p.t,ag ah p.s,va,vb],ag ah 0])/\AX w w' va (bI p.aZ 1 4)/\AX w w' vb (bI p.aZ 2 4)/\(∀k,va.ownBlock=ae k->vb.ownBlock≠ae k)/\Fr aP w w':=by
 have HH:Hid (aF w B xb n h):=hh;have rP:k<6:=by have:=hh.hP.2;omega
 have HM:Hid (decide (0<=(k:Int)/\(k:Int)<h.P)=true):=kF ⟨by omega,hm⟩;have HR:Hid (∀j v,p.cs[j]? =ae v->w.cell? ⟨xb,6+k*10+j,af⟩=ae v):=fun j v hv=>hh.iY hp j v hv;have c5:=hh.cU;rw[hu]at c5;have aI:=aX hh.blk;have aBd:(0:Int)<=(k:Int):=by omega
 have aBe:(k:Int)<6:=by omega
 have e0:w.cell? ⟨xb,6+k*10,af⟩=ae (ag ah p.e):=HR.o 0 _ rfl;have e1:w.cell? ⟨xb,6+k*10+1,af⟩=ae (ag ah p.t):=HR.o 1 _ rfl;have e2:w.cell? ⟨xb,6+k*10+2,af⟩=ae (ag ah p.s):=HR.o 2 _ rfl;clear hh hm hu hp;go_enter func30,ntmps30
 go_wp2_with (go_at_call 64;refine(AY (by exact HH.o.after<|bG _) k).mono ?_;rw[HM.o];rintro e w1 ⟨rfl,rfl⟩)
 have g0:(w.alloc<|aC #[ag ah 0,ag ah 0,ag ah 0,aJ af 0 0,aJ af 0 0] 58).cell? ⟨xb,6+k*10,af⟩=ae (ag ah p.e):=(aFn _ _ _ aI).trans e0;go_region_held3 (fun w'=>w'.cell? ⟨xb,6+k*10,af⟩=ae (ag ah p.e)/\w'.cell? ⟨xb,6+k*10+1,af⟩=ae (ag ah p.t)/\w'.cell? ⟨xb,6+k*10+2,af⟩=ae (ag ah p.s))
  (first|with_reducible exact⟨h0,h1,h2⟩|with_reducible exact⟨f0,f1,f2⟩|go_keep|(simp only[afT _ _ bx];with_reducible exact⟨h0,h1,h2⟩))
  (first
    |(go_at_call 69;have _:=F1.o;refine(Lh (p:=p) (by exact afV F1.o aI HR.o) 2).mono ?_;rintro e w2 ⟨vb,rfl,EE,jP⟩
      obtain⟨ba,bc,rfl,_⟩:=kR EE
      have F2:Hid (Fr aP w w2):=F1.o.trans jP fun _ h=>h.elim
      have V2:Hid (w2.ownsRow w1.heap.size 3 1 (.slice ba (bI p.aZ 2 4).length bc) (bI p.aZ 2 4).length<|gy<|bI p.aZ 2 4):=EE
      have U2:Hid (w2.ownsRow (w.heap.size+1) 3 1 (.slice aa (bI p.aZ 1 4).length ac) (bI p.aZ 1 4).length<|gy<|bI p.aZ 1 4):=jP.ownsRow V1.o fun _ _=>id
      have h0:w2.cell? ⟨xb,6+k*10,af⟩=ae (ag ah p.e):=(F2.o.cell (p:=⟨xb,6+k*10,af⟩) aI id).trans e0
      have h1:w2.cell? ⟨xb,6+k*10+1,af⟩=ae (ag ah p.t):=(F2.o.cell (p:=⟨xb,6+k*10+1,af⟩) aI id).trans e1
      have h2:w2.cell? ⟨xb,6+k*10+2,af⟩=ae (ag ah p.s):=(F2.o.cell (p:=⟨xb,6+k*10+2,af⟩) aI id).trans e2
      have B2:Hid (w2.heap[w.heap.size]? =ae (aC #[ag ah 0,ag ah 0,ag ah 0,aJ af 0 0,aJ af 0 0] 58 (0,0))):=(jP.block _ (aX B1.o) id).trans B1.o
      have b0:w2.cell? ⟨w.heap.size,0,af⟩=ae (ag ah 0):=by rw[aK B2.o];rfl
      have b1:w2.cell? ⟨w.heap.size,1,af⟩=ae (ag ah 0):=by rw[aK B2.o];rfl
      have b2:w2.cell? ⟨w.heap.size,2,af⟩=ae (ag ah 0):=by rw[aK B2.o];rfl
      have b3:w2.cell? ⟨w.heap.size,3,af⟩=ae (aJ af 0 0):=by rw[aK B2.o];rfl
      have b4:w2.cell? ⟨w.heap.size,4,af⟩=ae (aJ af 0 0):=by rw[aK B2.o];rfl
      have bf:∀o,w2.frozen? ⟨w.heap.size,o,af⟩=false:=jS B2.o
      have bx:xb≠w.heap.size:=by omega
      clear jP EE)
    |(go_at_call 69;refine(Lh (p:=p) (by exact afV ((bG _).drew) aI HR.o) 1).mono ?_;rintro e w1 ⟨va,rfl,jJ,bM⟩
      obtain⟨aa,ac,rfl,_⟩:=kR jJ
      have F1:Hid (Fr aP w w1):=((bG _).drew).trans bM fun _ h=>h.elim
      have V1:Hid (w1.ownsRow (w.heap.size+1) 3 1 (.slice aa (bI p.aZ 1 4).length ac) (bI p.aZ 1 4).length<|gy<|bI p.aZ 1 4):=BO jJ<|by simp
      have f0:w1.cell? ⟨xb,6+k*10,af⟩=ae (ag ah p.e):=(F1.o.cell (p:=⟨xb,6+k*10,af⟩) aI id).trans e0
      have f1:w1.cell? ⟨xb,6+k*10+1,af⟩=ae (ag ah p.t):=(F1.o.cell (p:=⟨xb,6+k*10+1,af⟩) aI id).trans e1
      have f2:w1.cell? ⟨xb,6+k*10+2,af⟩=ae (ag ah p.s):=(F1.o.cell (p:=⟨xb,6+k*10+2,af⟩) aI id).trans e2
      have B1:Hid (w1.heap[w.heap.size]? =ae (aC #[ag ah 0,ag ah 0,ag ah 0,aJ af 0 0,aJ af 0 0] 58 (0,0))):=(bM.block _ (by simp) id).trans (by show(w.alloc _).heap[w.heap.size]? =_;exact aDY _ _)
      clear bM jJ))
 go_wp2
 have hb:=jT (jT (jT (jT (jT B2.o 0<|ag ah p.e) 1<|ag ah p.t) 2<|ag ah p.s) 3<|.slice aa (bI p.aZ 1 4).length ac) 4<|.slice ba (bI p.aZ 2 4).length bc;have fs:=(((((Fr.refl (fun x=>x=w.heap.size) w2).setCell (p:=⟨w.heap.size,0,af⟩) (.inl rfl)<|ag ah p.e).setCell (p:=⟨w.heap.size,1,af⟩) (.inl rfl)<|ag ah p.t).setCell (p:=⟨w.heap.size,2,af⟩) (.inl rfl)<|ag ah p.s).setCell (p:=⟨w.heap.size,3,af⟩) (.inl rfl)<|.slice aa (bI p.aZ 1 4).length ac).setCell (p:=⟨w.heap.size,4,af⟩) (.inl rfl)<|.slice ba (bI p.aZ 2 4).length bc;have hz:w.heap.size<w1.heap.size:=aX B1.o;refine aEk (Ji rfl _ _ _ 58 _ (0,0) _ rfl hb underlying58 rfl Jj) rfl ?_;refine⟨_,_,rfl,?_,?_,fun x hx hy=>?_,F2.o.trans fs fun x hx=>.inr<|by omega⟩
 ·exact BO (fs.ownsRow U2.o (fun x hx e=>by have:=(U2.o.lt x hx).1;omega))<|by omega
 ·exact BO (fs.ownsRow V2.o (fun x hx e=>by have:=(V2.o.lt x hx).1;omega))<|by omega
 ·have h3:=(V1.o.lt x hx).2;have h4:=(V2.o.lt x hy).1;omega
end
end
section
def afW:∀(l:List PL) (k:Nat) (e:PL) (j:Nat),l[k]? =ae e->j<2->(pI l)[k*2+j]? =e.cs[j]?
 |[],k,e,j,h,_=>by simp at h
 |x::r,0,e,j,h,hj=>by
  simp only[xE,gu]at h;subst h;simp only[pI,oO];rw[uz (by simp[PL.cs]<;>omega)];simp
 |x::r,k+1,e,j,h,hj=>by
  simp only[zB]at h;have:=afW r k e j h hj;simp only[pI,oO]at this⊢
  rw[xC (by simp[PL.cs]<;>omega),<-this];congr 1;simp[PL.cs]<;>omega
def aaR{w:aj}{B g n cap:Nat}{l:List PL}(h:w.ownsRow B 98 2 (aJ (ae ⟨g,0,af⟩) n cap) l.length (pI l)){k:Nat}{e:PL}(hk:l[k]? =ae e):
 w.cell? ⟨g,k*2,af⟩=ae (ay<|ae ⟨e.lb,0,af⟩)/\w.cell? ⟨g,k*2+1,af⟩=ae (aB e.out):=by
 have hc:=h.cells (g:=g) rfl;have key:∀j u,j<2->e.cs[j]? =ae u->w.cell? ⟨g,k*2+j,af⟩=ae u:=fun j u hj hu=>by
  have:=hc (k*2+j) u<|(afW l k e j hk hj).trans hu;rw[aEn]at this;simpa using this
 exact⟨key 0 _ (by omega) rfl,key 1 _ (by omega) rfl⟩
def afX:(prog.info? 62).map (·.size)=ae 4:=by kernel_rfl
section
variable{w:aj}{B xb n:Nat}{h:HS}
variable{k:Nat}{p:PL}
def aF.place(hh:aF w B xb n h)(hk:h.pl[k]? =ae p):∃g cap,h.pv=aJ (ae ⟨g,0,af⟩) h.pl.length cap/\g<w.heap.size/\h.pl.length<=cap/\
 w.cell? ⟨g,k*2,af⟩=ae (ay<|ae ⟨p.lb,0,af⟩)/\w.cell? ⟨g,k*2+1,af⟩=ae (aB p.out):=by
 have aI:=(dM.1 hk).1;rcases hh.jU.2 with⟨hv,h0⟩|⟨g,cap,cur,hv,hb,hg,h1,h2,_⟩
 ·omega
 ·have:=hh.jU;rw[hv]at this;exact⟨g,cap,hv,aX hg,h1,aaR this hk⟩
def aBf(hh:aF w B xb n h){m:Int}(hm:¬(0<=m/\m<h.pl.length)):
 aU prog 23 #[ay<|ae ⟨xb,0,af⟩,ag ah m] w fun r w'=>r=aT (dK #[gY #[aB false,ag ah 0,ag ah 0,aJ af 0 0],ag ah 3])/\Fr aP w w':=by
 have HH:Hid (aF w B xb n h):=hh;have HM:Hid (decide (0<=m/\m<h.pl.length)=false):=qW hm;clear hh hm;go_enter func23,ntmps23
 go_wp2_with (go_at_call 50;refine(Ov (by exact HH.o.after<|bG _) m).mono ?_;rw[HM.o];rintro e w1 ⟨rfl,rfl⟩)
 refine aEk (Ji rfl _ _ _ 62 _ (0,0) _ rfl (aDY _ _) underlying62 rfl afX) rfl ?_;exact⟨rfl,bG _⟩
def an0(hh:aF w B xb n h)(hk:h.pl[k]? =ae p)(f1 f2:Int)(hi:Inv p.s)(hb:p.s.es.length*40<=140737488355328):
 aU prog 57 #[ay<|ae ⟨xb,0,af⟩,ag ah k,ag ah f1,ag ah f2] w fun r w'=>∃va,r=aT (dK #[va,ag ah 0])/\w'.ownsRow w.heap.size 94 3 va (p.s.BN f1 f2).length (qJ<|p.s.BN f1 f2)/\Fr aP w w':=by
 have nZ:=(dM.1 hk).1;have HH:Hid (aF w B xb n h):=hh;have HM:Hid (decide (0<=(k:Int)/\(k:Int)<h.pl.length)=true):=kF ⟨by omega,by omega⟩;obtain⟨g,cap,hv,hg,xn,p0,p1⟩:=hh.place hk;have QW:Hid (dY w B p.lb p.bm p.v n p.s):=hh.ed p<|gz hk;have HI:Hid (Inv p.s):=hi;have HB:Hid (p.s.es.length*40<=140737488355328):=hb;have c5:=hh.cV;rw[hv]at c5;have uS:(0:Int)<=(k:Int):=by omega
 have aQ:(k:Int)<(h.pl.length:Int):=by omega
 clear hh hk hi hb;go_enter func57,ntmps57
 go_wp2_with (first
  |(go_at_call 50;refine(Ov HH.o k).mono ?_;rw[HM.o];rintro e w1 ⟨rfl,rfl⟩)
  |(go_at_call 121;refine(anu QW.o HI.o.wf HB.o f1 f2).mono ?_;rintro e w1 ⟨va,rfl,jJ,bM⟩
    have V1:Hid (w1.ownsRow w.heap.size 94 3 va (p.s.BN f1 f2).length<|qJ<|p.s.BN f1 f2):=jJ
    have F1:Hid (Fr aP w w1):=bM
    clear jJ bM))
 go_ret2
 exact⟨_,rfl,V1.o,F1.o⟩
def Ox(hh:aF w B xb n h)(m:Int):
 aU prog 139 #[ay<|ae ⟨xb,69,af⟩,ag ah m] w fun e w'=>e=aT (.bool<|decide<|0<=m/\m<h.fl.length)/\w=w':=by
 have c0:=hh.cF;obtain⟨pa,pc,hp,_⟩:=pq hh.mV;rw[hp]at c0;clear hh;by_cases h1:0<=m
 ·by_cases h2:m<h.fl.length
  ·go_enter func139,ntmps139
   go_wp2
   go_ret;exact⟨by simp[h1,h2],rfl⟩
  ·go_enter func139,ntmps139
   go_wp2
   go_ret;exact⟨by simp[h2],rfl⟩
 ·go_enter func139,ntmps139
  go_wp2
  go_ret;exact⟨by rw[aaO<|by omega]<;>rfl,rfl⟩
def an1(hh:aF w B xb n h):aU prog 36 #[ay<|ae ⟨xb,0,af⟩] w fun r w'=>r=aT (ag ah h.fl.length)/\Fr aP w w':=by
 have c0:=hh.cF;obtain⟨pa,pc,hp,_⟩:=pq hh.mV;rw[hp]at c0;clear hh;go_enter func36,ntmps36
 go_wp2
 go_ret;exact⟨rfl,Fr.refl _ _⟩
end
end
section
def afY(n:Nat)(s:aH)(S:List Int):Prop:=S.Pairwise (· < ·)/\S.length<=n/\(∀x∈S,eP x)/\∀x,eP x->(x∈S↔∃t,s.nw x=ae (t,true))
section
variable{w:aj}{B xb n:Nat}{h:HS}
def an2(hh:aF w B xb n h){k:Nat}{p:PL}(hk:h.pl[k]? =ae p)(hi:Inv p.s)(hb:p.s.es.length*40<=140737488355328)(hn:(n+1)*8<=140737488355328):
 aU prog 23 #[ay<|ae ⟨xb,0,af⟩,ag ah k] w fun r w'=>∃va S,r=aT (dK #[gY #[aB p.out,ag ah p.s.es.length,ag ah p.s.dC,va],ag ah 0])/\afY n p.s S/\AX w w' va S/\Fr aP w w':=by
 have nZ:=(dM.1 hk).1;have HH:Hid (aF w B xb n h):=hh;have HM:Hid (decide (0<=(k:Int)/\(k:Int)<h.pl.length)=true):=kF ⟨by omega,by omega⟩;obtain⟨g,cap,hv,hg,xn,p0,p1⟩:=hh.place hk;have QW:Hid (dY w B p.lb p.bm p.v n p.s):=hh.ed p<|gz hk;have HI:Hid (Inv p.s):=hi;have HB:Hid (p.s.es.length*40<=140737488355328):=hb;have HN:Hid ((n+1)*8<=140737488355328):=hn;have c5:=hh.cV;rw[hv]at c5;have uS:(0:Int)<=(k:Int):=by omega
 have aQ:(k:Int)<(h.pl.length:Int):=by omega
 have aI:=aX hh.blk;have bx:g≠w.heap.size:=by omega
 clear hh hk hi hb hn;go_enter func23,ntmps23
 go_wp2_with (go_at_call 50;refine(Ov (by exact HH.o.after<|bG _) k).mono ?_;rw[HM.o];rintro e w1 ⟨rfl,rfl⟩)
 go_region_held3 (fun w'=>w'.cell? ⟨g,k*2,af⟩=ae (ay<|ae ⟨p.lb,0,af⟩)/\w'.cell? ⟨g,k*2+1,af⟩=ae (aB p.out))
  (first|with_reducible exact⟨i0,i1⟩|with_reducible exact⟨h0,h1⟩|with_reducible exact⟨f0,f1⟩|go_keep|(simp only[afT _ _ bx];with_reducible exact⟨i0,i1⟩))
  (first
    |(go_at_call 51;refine(anb (by exact((bG _).drew).logAt QW.o id id fun _ _=>id) HB.o).mono ?_;rintro e w1 ⟨va,rfl,jJ,bM⟩
      obtain⟨ea,ec,rfl,_⟩:=pq jJ
      have F1:Hid (Fr aP w w1):=((bG _).drew).trans bM fun _ h=>h.elim
      have f0:w1.cell? ⟨g,k*2,af⟩=ae (ay<|ae ⟨p.lb,0,af⟩):=(F1.o.cell (p:=⟨g,k*2,af⟩) hg id).trans p0
      have f1:w1.cell? ⟨g,k*2+1,af⟩=ae (aB p.out):=(F1.o.cell (p:=⟨g,k*2+1,af⟩) hg id).trans p1
      have B1:Hid (w1.heap[w.heap.size]? =ae (aC #[aB false,ag ah 0,ag ah 0,aJ af 0 0] 62 (0,0))):=(bM.block _ (by simp) id).trans (by show(w.alloc _).heap[w.heap.size]? =_;exact aDY _ _)
      clear bM jJ)
    |(go_at_call 59;refine(afp (by exact F1.o.logAt QW.o id id fun _ _=>id) HI.o.wf).mono ?_;rintro e w2 ⟨rfl,jP⟩
      have F2:Hid (Fr aP w w2):=F1.o.trans jP fun _ h=>h.elim
      have h0:w2.cell? ⟨g,k*2,af⟩=ae (ay<|ae ⟨p.lb,0,af⟩):=(F2.o.cell (p:=⟨g,k*2,af⟩) hg id).trans p0
      have h1:w2.cell? ⟨g,k*2+1,af⟩=ae (aB p.out):=(F2.o.cell (p:=⟨g,k*2+1,af⟩) hg id).trans p1
      have B2:Hid (w2.heap[w.heap.size]? =ae (aC #[aB false,ag ah 0,ag ah 0,aJ af 0 0] 62 (0,0))):=(jP.block _ (aX B1.o) id).trans B1.o
      clear jP)
    |(go_at_call 60;refine(afO (by exact F2.o.logAt QW.o id id fun _ _=>id) HN.o).mono ?_;rintro e w3 ⟨vb,S,rfl,Qq,lZ,hs⟩
      obtain⟨ba,bc,rfl,_⟩:=kR Qq
      have F3:Hid (Fr aP w w3):=F2.o.trans lZ fun _ h=>h.elim
      have HSS:Hid (afY n p.s S):=hs
      have V3:Hid (w3.ownsRow w2.heap.size 3 1 (.slice ba S.length bc) S.length<|gy S):=Qq
      have i0:w3.cell? ⟨g,k*2,af⟩=ae (ay<|ae ⟨p.lb,0,af⟩):=(F3.o.cell (p:=⟨g,k*2,af⟩) hg id).trans p0
      have i1:w3.cell? ⟨g,k*2+1,af⟩=ae (aB p.out):=(F3.o.cell (p:=⟨g,k*2+1,af⟩) hg id).trans p1
      have B3:Hid (w3.heap[w.heap.size]? =ae (aC #[aB false,ag ah 0,ag ah 0,aJ af 0 0] 62 (0,0))):=(lZ.block _ (aX B2.o) id).trans B2.o
      have b0:w3.cell? ⟨w.heap.size,0,af⟩=ae (aB false):=by rw[aK B3.o];rfl
      have b1:w3.cell? ⟨w.heap.size,1,af⟩=ae (ag ah 0):=by rw[aK B3.o];rfl
      have b2:w3.cell? ⟨w.heap.size,2,af⟩=ae (ag ah 0):=by rw[aK B3.o];rfl
      have b3:w3.cell? ⟨w.heap.size,3,af⟩=ae (aJ af 0 0):=by rw[aK B3.o];rfl
      have bf:∀o,w3.frozen? ⟨w.heap.size,o,af⟩=false:=jS B3.o
      clear lZ Qq hs))
 go_wp2
 have hb:=jT (jT (jT (jT B3.o 0<|aB p.out) 1<|ag ah p.s.es.length) 2<|ag ah p.s.dC) 3<|.slice ba S.length bc;have fs:=((((Fr.refl (fun x=>x=w.heap.size) w3).setCell (p:=⟨w.heap.size,0,af⟩) (.inl rfl)<|aB p.out).setCell (p:=⟨w.heap.size,1,af⟩) (.inl rfl)<|ag ah p.s.es.length).setCell (p:=⟨w.heap.size,2,af⟩) (.inl rfl)<|ag ah p.s.dC).setCell (p:=⟨w.heap.size,3,af⟩) (.inl rfl)<|.slice ba S.length bc;have hz:w.heap.size<w2.heap.size:=aX B2.o;refine aEk (Ji rfl _ _ _ 62 _ (0,0) _ rfl hb underlying62 rfl afX) rfl ?_;refine⟨_,S,rfl,HSS.o,?_,F3.o.trans fs fun x hx=>.inr<|by omega⟩;exact BO (fs.ownsRow V3.o (fun x hx e=>by have:=(V3.o.lt x hx).1;omega))<|by omega
def afZ(hh:aF w B xb n h):
 aU prog 44 #[ay<|ae ⟨xb,0,af⟩] w fun r w'=>r=aT (.int .i64<|if h.up then 0 else 5)/\aF w' B xb n (if h.up then h.qY else h)/\Fr (fun k=>k=xb) w w':=by
 have HH:Hid (aF w B xb n h):=hh;have c5:=hh.cU;clear hh;cases hu:h.up
 ·rw[hu]at c5;go_enter func44,ntmps44
  go_wp2
  go_ret;exact⟨rfl,HH.o,Fr.refl _ _⟩
 ·rw[hu]at c5;go_enter func44,ntmps44
  go_wp2_with (go_at_call 104;refine(aaN HH.o).mono ?_;rintro e w1 ⟨rfl,bM⟩;have H1:Hid (aF w1 B xb n h.qY/\Fr (fun k=>k=xb) w w1):=bM;clear bM)
  go_ret;exact⟨rfl,H1.o⟩
end
end
section
def qZ(b:Nat):Array Value:=#[.nilFunc,.func (.func 179) #[] #[ay<|ae ⟨b,0,af⟩],.func (.func 180) #[] #[ay<|ae ⟨b,0,af⟩],.func (.func 181) #[] #[ay<|ae ⟨b,0,af⟩],.func (.func 182) #[] #[ay<|ae ⟨b,0,af⟩]]
def V9:(prog.info? 193).map (·.size)=ae 5:=by kernel_rfl
def af0{fn:Func}{p:Tmp}{ty:dw}(h:fn.results=#[.cell p ty])(tmps:Array az)(w:aj)(g:Nat)(t:dw)(cs:Array az)(fr:Nat×Nat)(d:TypeDesc)
 (hp:tmps.getD p ai=ay (ae ⟨g,0,af⟩))(hg:w.heap[g]? =ae (.cells cs t fr))
 (hu:prog.underlying ty=ae d)(hd:d.isRow=true)(hi:(prog.info? ty).map (·.size)=ae cs.size):
 (results fn tmps).run prog w=.ok (.agg cs) w:=by
 have:=run_loadVar_mid w g 0 ty cs.toList d (fun j v hv=>by rw[aK hg];simpa using hv) hu hd (by simpa using hi);have vU:tmps[p]?.getD ai=ay (ae ⟨g,0,af⟩):=by simpa using hp
 simp[results,h,vU,asAddr,this]
section
variable{w:aj}{B xb n:Nat}{h:HS}
def Oy(kv:Option Addr):aU prog 128 #[.pointer kv] w fun r w'=>r=aT (.agg<|qZ w.heap.size)/\w'.heap[w.heap.size]? =ae (aC #[.pointer kv] 181 (0,0))/\Fr aP w w':=by
 have hb:((w.alloc<|aC #[.pointer kv] 181).alloc<|aC #[.nilFunc,.nilFunc,.nilFunc,.nilFunc,.nilFunc] 193).heap[w.heap.size+1]? =ae (aC #[.nilFunc,.nilFunc,.nilFunc,.nilFunc,.nilFunc] 193 (0,0)):=by
  have:=aDY (w.alloc<|aC #[.pointer kv] 181)<|aC #[.nilFunc,.nilFunc,.nilFunc,.nilFunc,.nilFunc] 193;simpa using this
 have hth:=Ld hb (o:=0) (n:=5) (by simp);have HB:Hid (((w.alloc<|aC #[.pointer kv] 181).alloc<|aC #[.nilFunc,.nilFunc,.nilFunc,.nilFunc,.nilFunc] 193).heap[w.heap.size+1]? =ae (aC #[.nilFunc,.nilFunc,.nilFunc,.nilFunc,.nilFunc] 193 (0,0))):=hb;have HT:Hid (((w.alloc<|aC #[.pointer kv] 181).alloc<|aC #[.nilFunc,.nilFunc,.nilFunc,.nilFunc,.nilFunc] 193).there (w.heap.size+1) 0 5):=hth;clear hb hth;go_enter func128,ntmps128
 go_wp2_with (refine aEz rfl 193 _ _ rfl (w.heap.size+1) 0 (qZ w.heap.size) rfl rfl HT.o V9 (by simp[qZ,Value.oneCell']) ?_)
 have hb:=Jh (qZ w.heap.size).toList 0 HB.o;have fs:Fr aP w _:=Fr.setCells (S:=fun _=>False) (b:=w.heap.size+1) (.inr<|by omega) (qZ w.heap.size).toList 0<|((Fr.refl (fun _=>False) w).alloc<|aC #[.pointer kv] 181).alloc<|aC #[.nilFunc,.nilFunc,.nilFunc,.nilFunc,.nilFunc] 193;have f1:Fr (fun k=>k=w.heap.size+1) (w.alloc<|aC #[.pointer kv] 181) _:=Fr.setCells (S:=fun k=>k=w.heap.size+1) (b:=w.heap.size+1) (.inl rfl) (qZ w.heap.size).toList 0<|(Fr.refl (fun k=>k=w.heap.size+1) _).alloc<|aC #[.nilFunc,.nilFunc,.nilFunc,.nilFunc,.nilFunc] 193;refine aEk (af0 rfl _ _ _ 193 (qZ w.heap.size) (0,0) _ rfl hb underlying193 rfl V9) rfl ?_;exact⟨rfl,(f1.block _ (by simp)<|by omega).trans<|aDY _ _,fs⟩
def an4(w:aj):aU prog 177 #[aJ af 0 0] w fun r w'=>r=aT (aB false)/\Fr aP w w':=by
 go_enter func177,ntmps177
 go_wp2_with fail
 go_quiet (fail)
 go_wp2
 go_ret;exact⟨rfl,(Fr.refl _ _).drewN _⟩
def an5(w:aj):aU prog 127 #[aJ af 0 0] w fun r w'=>r=aT (aJ af 0 0)/\Fr aP w w':=by
 go_enter func127,ntmps127
 go_wp2_with fail
 go_loopw [0,3] (fun a b w'=>a=aJ af 0 0/\b=aJ af 0 0/\w'=w) (fun _ _ _=>0)
 case atStart=>exact⟨rfl,rfl,rfl⟩
 case round=>
  obtain⟨rfl,rfl,rfl⟩:=hrel
  go_wp2_with (go_at_call 177;refine(an4 _).mono ?_;rintro e w1 ⟨rfl,hf⟩;have HF:Hid (Fr aP wr w1):=hf;clear hf)
  go_ret
  exact⟨rfl,HF.o⟩
def HS.yI(h:HS):HS:={h with up:=true}
def HS.af1(h:HS):h.cells.toArray.setIfInBounds 5 (aB true)=h.yI.cells.toArray:=by
 obtain⟨P,Q,T,K,jv,jb,up,ps,br,kp,pv,pl,fv,fl⟩:=h;simp[HS.cells,HS.yI]
def HS.af2(h:HS):h.cells.toArray.setIfInBounds 4 h.jv=h.cells.toArray:=by
 obtain⟨P,Q,T,K,jv,jb,up,ps,br,kp,pv,pl,fv,fl⟩:=h;simp[HS.cells]
def an6(w:aj):(Instr.slice 99 (aJ af 0 0) af (ae<|ag ah 0) af).run prog w=.ok (aJ af 0 0) w:=by kernel_rfl
def an7(hh:aF w B xb n h)(hj:h.jv=aJ af 0 0):
 aU prog 68 #[ay<|ae ⟨xb,4,af⟩] w fun r w'=>r=aT (dK #[])/\aF w' B xb n h.yI/\Fr (fun k=>k=xb) w w':=by
 have HH:Hid (aF w B xb n h):=hh;have HJ:Hid (h.jv=aJ af 0 0):=hj;have c4:=hh.cJ;rw[hj]at c4;have c5:=hh.cU;have aI:=aX hh.blk;have Kr:=an6;clear hh hj;go_enter func68,ntmps68
 go_wp2_with (first
  |(go_at_call 127;refine(an5 w).mono ?_;rintro e w1 ⟨rfl,bM⟩
    have F1:Hid (Fr aP w w1):=bM
    have B1:Hid (w1.heap[xb]? =ae (.cells h.cells.toArray 111 (0,0))):=(bM.block xb aI id).trans HH.o.blk
    have d4:w1.cell? ⟨xb,4,af⟩=ae (aJ af 0 0):=(bM.cell (p:=⟨xb,4,af⟩) aI id).trans c4
    have d5:w1.cell? ⟨xb,5,af⟩=ae (aB h.up):=(bM.cell (p:=⟨xb,5,af⟩) aI id).trans c5
    have df:∀o,w1.frozen? ⟨xb,o,af⟩=false:=jS B1.o
    have gG:xb<w1.heap.size:=fK aI bM.size
    clear bM)
  |(go_at_call 128;refine(Oy _).mono ?_;rintro e w2 ⟨rfl,rQ,jP⟩
    have S2:Hid (Fr aP (w1.setCell ⟨xb,4,af⟩<|aJ af 0 0) w2):=jP
    have T2:Hid ((w2.alloc<|aC #[.nilFunc,.nilFunc,.nilFunc,.nilFunc,.nilFunc] 193).there w2.heap.size 0 5):=Ld (aDY _ _)<|by simp
    clear rQ jP)
  |(refine aEz rfl 193 _ _ rfl w2.heap.size 0 (qZ w1.heap.size) rfl rfl T2.o V9 (by simp[qZ,Value.oneCell']) ?_
    have hW:Fr aP w2 _:=Fr.setCells (S:=fun _=>False) (b:=w2.heap.size) (.inr<|dm _) (qZ w1.heap.size).toList 0<|(Fr.refl (fun _=>False) w2).alloc<|aC #[.nilFunc,.nilFunc,.nilFunc,.nilFunc,.nilFunc] 193
    generalize((w2.alloc<|aC #[.nilFunc,.nilFunc,.nilFunc,.nilFunc,.nilFunc] 193).setCells w2.heap.size 0 (qZ w1.heap.size).toList)=w3 at hW⊢
    have S3:Hid (Fr aP (w1.setCell ⟨xb,4,af⟩<|aJ af 0 0) w3):=S2.o.trans hW fun _ h=>h.elim
    have B3:Hid (w3.heap[xb]? =ae (.cells h.cells.toArray 111 (0,0))):=by
     refine(S3.o.block xb (by simpa using gG) id).trans<|(jT B1.o 4<|aJ af 0 0).trans ?_;have:=h.af2;rw[HJ.o]at this;rw[this]
    have m5:w3.cell? ⟨xb,5,af⟩=ae (aB h.up):=by rw[aK B3.o];rfl
    have mf:∀o,w3.frozen? ⟨xb,o,af⟩=false:=jS B3.o
    clear hW))
 go_loopw [26] (fun i w'=>i=ag ah 0/\w'=w3) (fun _ _=>0)
 case atStart=>exact⟨rfl,rfl⟩
 case round=>
  obtain⟨rfl,rfl⟩:=hrel
  go_wp2
  go_end0
  have f1:Fr (fun k=>k=xb) w (w1.setCell ⟨xb,4,af⟩<|aJ af 0 0):=(F1.o.mono (fun _ h=>h.elim):Fr (fun k=>k=xb) w w1).setCell (p:=⟨xb,4,af⟩) (.inl rfl) _
  have f2:Fr (fun k=>k=xb) w (wr.setCell ⟨xb,5,af⟩<|aB true):=(f1.trans S3.o fun _ h=>h.elim).setCell (p:=⟨xb,5,af⟩) (.inl rfl) _
  refine⟨rfl,HH.o.put f2 ?_ rfl rfl rfl rfl rfl rfl rfl rfl HH.o.h6,f2⟩
  rw[jT B3.o,h.af1]
def an8(hh:aF w B xb n h)(hu:h.up=true):
 aU prog 29 #[ay<|ae ⟨xb,0,af⟩] w fun r w'=>r=aT (ag ah 6)/\w=w':=by
 have c5:=hh.cU;rw[hu]at c5;clear hh;go_enter func29,ntmps29
 go_wp2
 go_ret;exact⟨rfl,rfl⟩
def an9(w:aj):(convert 99 9<|aJ af 0 0).run prog w=.ok (dA ⟨#[]⟩) w:=by kernel_rfl
end
end
structure Rc where
 k:Int
 p:Int
 a:Int
 m:Int
structure Du where
 p:Int
 q:Int
 t:Int
 g:Int
def Rc.cs(r:Rc):List Value:=[ag ah r.k,ag ah r.p,ag ah r.a,ag ah r.m]
section
section
variable{w:aj}
def Fr.dr(w:aj):Fr aP w w.drew:=(Fr.refl _ _).drew
end
end
section
section
variable{w:aj}{B:Nat}
def We{ty:dw}{wd:Nat}{v:az}{n:Nat}{xs:List az}{b:Nat}{cs:Array az}{t:dw}{fr:Nat×Nat}(h:w.ownsRow B ty wd v n xs)(hb:w.heap[b]? =ae (.cells cs t fr))(dh:ty≠t):v.ownBlock≠ae b:=fun e=>by
 have h1:=iK h e;rw[lM hb]at h1;exact dh h1.symm
end
end
end Go.Proofs.YtkelpcjiediamaaGreat
