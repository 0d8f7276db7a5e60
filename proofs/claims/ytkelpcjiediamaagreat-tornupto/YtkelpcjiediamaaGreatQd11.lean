import Derived.Test.YtkelpcjiediamaaGreatQd3
import Derived.Test.YtkelpcjiediamaaGreatQd10
import Derived.Deep.RegionHeld3
import Derived.Deep.DrawnRows
set_option maxRecDepth 100000
set_option maxHeartbeats 0
set_option linter.all false
namespace Go.Proofs.YtkelpcjiediamaaGreat
def aDY:=@Go.heap_alloc_new
def aD9:=@Go.World.ownsRow_nil
def aEN:=@Go.Maps.keyOf_int_mk
def aFt:=@Go.World.new_ne
open Go renaming Calls→aU,Value→az,World→aj,maxLen→dU
open Go.Ending renaming returned→aT
open Go.Obj renaming cells→aC
open Go.Value renaming agg→gY,pointer→ay,slice→aJ
open Option renaming none→af,some→ae
open Go.Proofs.Tryz
open Go.RowKit Go.Maps
structure iy where
 k:Int
 p:Int
 t:Int
 s:ByteArray
def iy.cs(e:iy):List Value:=[.int .i64 e.k,.int .i64 e.p,.int .i64 e.t,.string e.s]
def qo(l:List iy):List Value:=l.flatMap iy.cs
structure aH where
 es:List iy
 d:Nat
 nw:Int->Option (Int×Bool)
def jw(nw:Int->Option (Int×Bool)):az->Option az
 | .int .i64 p=>(nw p).map fun x=>gY #[.int .i64 x.1,.bool x.2]
 |_=>af
def aH.isOpen(s:aH)(p t:Int):Bool:=decide<|s.nw p=ae (t,true)
structure dY(w:aj)(B lb bm:Nat)(v:az)(n:Nat)(s:aH):Prop where
 blk:w.heap[lb]? =ae (aC #[v,.int .i64 s.d,.map<|ae bm] 163 (0,0))
 row:w.ownsRow B 55 4 v s.es.length (qo s.es)
 map:jo w prog 3 bm n (jw s.nw)
 hl:B<=lb
 hm:B<=bm
def AV:Keyed prog 3:=int_keyed underlying3
def aar(w:aj):(zeroValue 189).run prog w=.ok (gY #[.int .i64 0,.bool false]) w:=by kernel_rfl
def am2(w:aj):aU prog 71 #[] w fun e w'=>e=aT (ay<|ae ⟨w.heap.size+1,0,af⟩)/\
 dY w' w.heap.size (w.heap.size+1) w.heap.size (aJ af 0 0) 0 ⟨[],0,fun _=>af⟩/\Fr aP w w':=by
 have Zb:=@run_makeMap prog;go_enter func71,ntmps71
 go_wp2
 go_ret;refine⟨rfl,⟨?_,aD9 _ _ _ _,?_,by omega,by omega⟩,((Fr.refl _ _).alloc _).alloc _⟩
 ·have:=aDY (w.alloc<|.map #[] 0)<|aC #[aJ af 0 0,.int .i64 0,.map<|ae w.heap.size] 163;simpa using this
 ·refine((Fr.refl (fun _=>False) _).alloc _).AU (jo.congr (jo.made w prog 3) ?_) fun h=>h;intro key kl _;cases key<;>simp[jw];split<;>rfl
def GU{w:aj}{B lb bm n:Nat}{v:az}{s:aH}(h:dY w B lb bm v n s)(p t:Int)(hp:(Lit.int .i64 p).wf=true):
 aU prog 122 #[ay<|ae ⟨lb,0,af⟩,.int .i64 p,.int .i64 t] w fun e w'=>e=aT (.bool<|s.isOpen p t)/\w'=w:=by
 have c2:w.cell? ⟨lb,2,af⟩=ae (.map<|ae bm):=by rw[aK h.blk];rfl
 have uQ:=h.map.look AV underlying161 (aar w)<|aEN underlying3 hp;rcases hx:s.nw p with _|⟨t',o⟩
 ·rw[show jw s.nw (.int .i64 p)=af by simp[jw,hx]]at uQ;have hr:s.isOpen p t=false:=by simp[aH.isOpen,hx]
  simp only[Option.getD_none]at uQ;rw[hr];clear h hx hr hp;go_enter func122,ntmps122
  go_wp2
  go_ret;exact⟨rfl,rfl⟩
 ·rw[show jw s.nw (.int .i64 p)=ae (gY #[.int .i64 t',.bool o])by simp[jw,hx]]at uQ;simp only[ik]at uQ;by_cases e:t'=t
  ·subst e;have hr:s.isOpen p t'=o:=by
    simp only[aH.isOpen,hx];cases o<;>simp
   rw[hr];clear h hx hr hp;cases o;all_goals
    go_enter func122,ntmps122
    go_wp2
    go_ret
    exact⟨rfl,rfl⟩
  ·have hr:s.isOpen p t=false:=by
    simp only[aH.isOpen,hx];cases o<;>simp[e]
   have hb:(t'==t)=false:=by simp[e]
   rw[hr];clear h hx hr hp;go_enter func122,ntmps122
   go_wp2
   go_ret;exact⟨rfl,rfl⟩
section
def aH.zH(s:aH)(p t:Int):Bool:=
 match s.nw p with
 |none=>true
 |some (t',o)=>!o&&decide (t'<t)
def aH.set(s:aH)(p t:Int)(o:Bool):aH:={s with nw:=fun q=>if q=p then ae (t,o)else s.nw q}
def aH.opened(s:aH)(p t:Int):aH:=if s.zH p t then s.set p t true else s
def Oi(nw:Int->Option (Int×Bool))(p t:Int)(o:Bool):jw (fun q=>if q=p then ae (t,o)else nw q) (.int .i64 p)=ae (gY #[.int .i64 t,.bool o]):=by simp[jw]
def Oj(nw:Int->Option (Int×Bool))(p t:Int)(o:Bool)(x:az)(hx:x≠.int .i64 p):jw (fun q=>if q=p then ae (t,o)else nw q) x=jw nw x:=by
 unfold jw;split
 ·rename_i q;have:q≠p:=fun e=>hx (by rw[e]);simp[this]
 ·rfl
variable{S:Nat->Prop}{w w2:aj}{B lb bm n:Nat}{v:az}{s:aH}
def Fr.KX{a:aj}{b:Nat}(h:Fr S a w)(ht:w.mapTurned w2 b)(hb:S b\/a.heap.size<=b):Fr S a w2:=
 h.grown ht.grown (fun k e=>by cases e;exact hb)
def dY.lt(h:dY w B lb bm v n s):lb<w.heap.size:=aX h.blk
def dY.ne(h:dY w B lb bm v n s):lb≠bm:=by
 intro e;obtain⟨D,⟨es,clock,hb,_⟩,_⟩:=h.map;have h1:=h.blk;rw[e,hb]at h1;cases h1
def dY.KY(h:dY w B lb bm v n s):v.ownBlock≠ae lb:=by
 intro e;rcases h.row.2 with⟨rfl,_⟩|⟨g,cap,cur,rfl,_,hg,_⟩
 ·simp[Value.ownBlock]at e
 ·simp[Value.ownBlock]at e;have h1:=h.blk;rw[<-e,hg]at h1;cases h1
def dY.aas(h:dY w B lb bm v n s):v.ownBlock≠ae bm:=by
 intro e;obtain⟨D,⟨es,clock,hb,_⟩,_⟩:=h.map;rcases h.row.2 with⟨rfl,_⟩|⟨g,cap,cur,rfl,_,hg,_⟩
 ·simp[Value.ownBlock]at e
 ·simp[Value.ownBlock]at e;rw[<-e,hg]at hb;cases hb
def Fr.logAt(f:Fr S w w2)(h:dY w B lb bm v n s)(h1:¬S lb)(h2:¬S bm)(h3:∀k,v.ownBlock=ae k->¬S k):dY w2 B lb bm v n s:=
 ⟨(f.block lb h.lt h1).trans h.blk,f.ownsRow h.row h3,f.AU h.map h2,h.hl,h.hm⟩
def dY.mono(h:dY w B lb bm v n s){m:Nat}(hm:n<=m):dY w B lb bm v m s:=
 ⟨h.blk,h.row,h.map.mono hm,h.hl,h.hm⟩
def dY.Ol{p t:Int}{o:Bool}(h:dY w B lb bm v n s)(f:Fr (fun k=>k=bm) w w2)(hm:jo w2 prog 3 bm (n+1) (jw (s.set p t o).nw)):
 dY w2 B lb bm v (n+1) (s.set p t o):=
 ⟨(f.block lb h.lt h.ne).trans h.blk,f.ownsRow h.row (fun k hk e=>h.aas<|by rw[hk,e]),hm,h.hl,h.hm⟩
def bG(o:Obj):Fr aP w (w.alloc o):=(Fr.refl _ _).alloc _
def am3(h:dY w B lb bm v n s)(p t:Int)(hp:(Lit.int .i64 p).wf=true)(hn:n<dU):
 aU prog 126 #[ay<|ae ⟨lb,0,af⟩,.int .i64 p,.int .i64 t] w fun e w'=>e=aT (.bool<|s.zH p t)/\dY w' B lb bm v (n+1) (s.opened p t)/\Fr (fun k=>k=bm) w w':=by
 have c2:w.cell? ⟨lb,2,af⟩=ae (.map<|ae bm):=by rw[aK h.blk];rfl
 have lT:=aEN underlying3 hp;have uQ:=h.map.look_ok AV underlying161 (aar w) lT;have aI:=h.lt;have c3:=aFt w ⟨lb,2,af⟩ c2;have H:Hid (dY w B lb bm v n s):=h;have HN:Hid (n<dU):=hn;have HK:Hid (keyOf prog 3 (.int .i64 p)=ae (.int .i64 p)):=lT;rcases hx:s.nw p with _|⟨t',o⟩
 ·rw[show jw s.nw (.int .i64 p)=af by simp[jw,hx]]at uQ;simp only[Option.getD_none,Option.isSome_none]at uQ;have hc:s.zH p t=true:=by simp[aH.zH,hx]
  rw[show s.opened p t=s.set p t true by simp[aH.opened,hc],hc];clear h hx hc hp hn lT;go_enter func126,ntmps126
  go_wp2_with (at_mapUpdate;refine QP _ rfl _ _ _ 161 rfl 3 189 AV underlying161 bm n (jw s.nw) rfl (by exact(bG _).AU H.o.map id) HN.o _ _ _ rfl rfl HK.o (jw (s.set p t true).nw) (Oi _ _ _ _) (Oj _ _ _ _) ?_;intro w1 qR ht1)
  go_ret;have hf:Fr (fun k=>k=bm) w w1:=((Fr.refl _ _).alloc _).KX ht1<|.inl rfl;exact⟨rfl,H.o.Ol hf qR,hf⟩
 ·rw[show jw s.nw (.int .i64 p)=ae (gY #[.int .i64 t',.bool o])by simp[jw,hx]]at uQ;simp only[ik,Option.isSome_some]at uQ;cases o
  ·by_cases lU:t'<t
   ·have hc:s.zH p t=true:=by simp[aH.zH,hx,lU]
    rw[show s.opened p t=s.set p t true by simp[aH.opened,hc],hc];have Ey:¬(t<=t'):=by omega
    clear h hx hc hp hn lT;go_enter func126,ntmps126
    go_wp2_with (at_mapUpdate;refine QP _ rfl _ _ _ 161 rfl 3 189 AV underlying161 bm n (jw s.nw) rfl (by exact(bG _).AU H.o.map id) HN.o _ _ _ rfl rfl HK.o (jw (s.set p t true).nw) (Oi _ _ _ _) (Oj _ _ _ _) ?_;intro w1 qR ht1)
    go_ret;have hf:Fr (fun k=>k=bm) w w1:=((Fr.refl _ _).alloc _).KX ht1<|.inl rfl;exact⟨rfl,H.o.Ol hf qR,hf⟩
   ·have hc:s.zH p t=false:=by simp[aH.zH,hx,lU]
    rw[show s.opened p t=s by simp[aH.opened,hc],hc];have Ey:t<=t':=by omega
    clear h hx hc hp hn lT lU;go_enter func126,ntmps126
    go_wp2
    go_ret;exact⟨rfl,(bG _).logAt (H.o.mono<|by omega) id id fun _ _=>id,(Fr.refl _ _).alloc _⟩
  ·have hc:s.zH p t=false:=by simp[aH.zH,hx]
   rw[show s.opened p t=s by simp[aH.opened,hc],hc];clear h hx hc hp hn lT;go_enter func126,ntmps126
   go_wp2
   go_ret;exact⟨rfl,(bG _).logAt (H.o.mono<|by omega) id id fun _ _=>id,(Fr.refl _ _).alloc _⟩
end
end Go.Proofs.YtkelpcjiediamaaGreat
