import Derived.Test.YtkelpcjiediamaaGreatQb14
import Derived.Deep.RegionHeld3
import Derived.Deep.DrawnRows
set_option maxRecDepth 100000
set_option maxHeartbeats 0
set_option linter.all false
namespace Go.Proofs.YtkelpcjiediamaaGreat
def aB0:=@Go.heap_alloc_new
def aCb:=@Go.World.ownsRow_nil
def aCO:=@Go.Maps.keyOf_int_mk
def aDt:=@Go.World.new_ne
open Go renaming Calls→aK,Value→aj,World→ah,maxLen→dH
open Option renaming none→af,some→ae
open Go.Proofs.Tryz
open Go.RowKit Go.Maps
structure gm where
 k:Int
 p:Int
 t:Int
 s:ByteArray
def gm.cs(e:gm):List Value:=[.int .i64 e.k,.int .i64 e.p,.int .i64 e.t,.string e.s]
def oh(l:List gm):List Value:=l.flatMap gm.cs
structure aA where
 es:List gm
 d:Nat
 nw:Int->Option (Int×Bool)
def iW(nw:Int->Option (Int×Bool)):aj->Option aj
 | .int .i64 p=>(nw p).map fun x=>.agg #[.int .i64 x.1,.bool x.2]
 |_=>af
def aA.isOpen(s:aA)(p t:Int):Bool:=decide<|s.nw p=ae (t,true)
structure dK(w:ah)(B lb bm:Nat)(v:aj)(n:Nat)(s:aA):Prop where
 blk:w.heap[lb]? =ae (.cells #[v,.int .i64 s.d,.map<|ae bm] 163 (0,0))
 row:w.ownsRow B 55 4 v s.es.length (oh s.es)
 map:iV w prog 3 bm n (iW s.nw)
 hl:B<=lb
 hm:B<=bm
def zN:Keyed prog 3:=int_keyed underlying3
def YP(w:ah):(zeroValue 189).run prog w=.ok (.agg #[.int .i64 0,.bool false]) w:=by kernel_rfl
def alj(w:ah):aK prog 71 #[] w fun e w'=>e=.returned (.pointer<|ae ⟨w.heap.size+1,0,af⟩)/\
 dK w' w.heap.size (w.heap.size+1) w.heap.size (.slice af 0 0) 0 ⟨[],0,fun _=>af⟩/\Fr aH w w':=by
 have XH:=@run_makeMap prog;go_enter func71,ntmps71
 go_wp2
 go_ret;refine⟨rfl,⟨?_,aCb _ _ _ _,?_,by omega,by omega⟩,((Fr.refl _ _).alloc _).alloc _⟩
 ·have:=aB0 (w.alloc<|.map #[] 0)<|.cells #[.slice af 0 0,.int .i64 0,.map<|ae w.heap.size] 163;simpa using this
 ·refine((Fr.refl (fun _=>False) _).alloc _).zM (iV.congr (iV.made w prog 3) ?_) fun h=>h;intro key kl _;cases key<;>simp[iW];split<;>rfl
def FC{w:ah}{B lb bm n:Nat}{v:aj}{s:aA}(h:dK w B lb bm v n s)(p t:Int)(hp:(Lit.int .i64 p).wf=true):
 aK prog 122 #[.pointer<|ae ⟨lb,0,af⟩,.int .i64 p,.int .i64 t] w fun e w'=>e=.returned (.bool<|s.isOpen p t)/\w'=w:=by
 have c2:w.cell? ⟨lb,2,af⟩=ae (.map<|ae bm):=by rw[aG h.blk];rfl
 have uo:=h.map.look zN underlying161 (YP w)<|aCO underlying3 hp;rcases hx:s.nw p with _|⟨t',o⟩
 ·rw[show iW s.nw (.int .i64 p)=af by simp[iW,hx]]at uo;have hr:s.isOpen p t=false:=by simp[aA.isOpen,hx]
  simp only[Option.getD_none]at uo;rw[hr];clear h hx hr hp;go_enter func122,ntmps122
  go_wp2
  go_ret;exact⟨rfl,rfl⟩
 ·rw[show iW s.nw (.int .i64 p)=ae (.agg #[.int .i64 t',.bool o])by simp[iW,hx]]at uo;simp only[gQ]at uo;by_cases e:t'=t
  ·subst e;have hr:s.isOpen p t'=o:=by
    simp only[aA.isOpen,hx];cases o<;>simp
   rw[hr];clear h hx hr hp;cases o;all_goals
    go_enter func122,ntmps122
    go_wp2
    go_ret
    exact⟨rfl,rfl⟩
  ·have hr:s.isOpen p t=false:=by
    simp only[aA.isOpen,hx];cases o<;>simp[e]
   have hb:(t'==t)=false:=by simp[e]
   rw[hr];clear h hx hr hp;go_enter func122,ntmps122
   go_wp2
   go_ret;exact⟨rfl,rfl⟩
section
def aA.yN(s:aA)(p t:Int):Bool:=
 match s.nw p with
 |none=>true
 |some (t',o)=>!o&&decide (t'<t)
def aA.set(s:aA)(p t:Int)(o:Bool):aA:={s with nw:=fun q=>if q=p then ae (t,o)else s.nw q}
def aA.opened(s:aA)(p t:Int):aA:=if s.yN p t then s.set p t true else s
def MX(nw:Int->Option (Int×Bool))(p t:Int)(o:Bool):iW (fun q=>if q=p then ae (t,o)else nw q) (.int .i64 p)=ae (.agg #[.int .i64 t,.bool o]):=by simp[iW]
def MZ(nw:Int->Option (Int×Bool))(p t:Int)(o:Bool)(x:aj)(hx:x≠.int .i64 p):iW (fun q=>if q=p then ae (t,o)else nw q) x=iW nw x:=by
 unfold iW;split
 ·rename_i q;have:q≠p:=fun e=>hx (by rw[e]);simp[this]
 ·rfl
variable{S:Nat->Prop}{w w2:ah}{B lb bm n:Nat}{v:aj}{s:aA}
def Fr.JO{a:ah}{b:Nat}(h:Fr S a w)(ht:w.mapTurned w2 b)(hb:S b\/a.heap.size<=b):Fr S a w2:=
 h.grown ht.grown (fun k e=>by cases e;exact hb)
def dK.lt(h:dK w B lb bm v n s):lb<w.heap.size:=aS h.blk
def dK.ne(h:dK w B lb bm v n s):lb≠bm:=by
 intro e;obtain⟨D,⟨es,clock,hb,_⟩,_⟩:=h.map;have h1:=h.blk;rw[e,hb]at h1;cases h1
def dK.JP(h:dK w B lb bm v n s):v.ownBlock≠ae lb:=by
 intro e;rcases h.row.2 with⟨rfl,_⟩|⟨g,cap,cur,rfl,_,hg,_⟩
 ·simp[Value.ownBlock]at e
 ·simp[Value.ownBlock]at e;have h1:=h.blk;rw[<-e,hg]at h1;cases h1
def dK.YQ(h:dK w B lb bm v n s):v.ownBlock≠ae bm:=by
 intro e;obtain⟨D,⟨es,clock,hb,_⟩,_⟩:=h.map;rcases h.row.2 with⟨rfl,_⟩|⟨g,cap,cur,rfl,_,hg,_⟩
 ·simp[Value.ownBlock]at e
 ·simp[Value.ownBlock]at e;rw[<-e,hg]at hb;cases hb
def Fr.logAt(f:Fr S w w2)(h:dK w B lb bm v n s)(h1:¬S lb)(h2:¬S bm)(h3:∀k,v.ownBlock=ae k->¬S k):dK w2 B lb bm v n s:=
 ⟨(f.block lb h.lt h1).trans h.blk,f.ownsRow h.row h3,f.zM h.map h2,h.hl,h.hm⟩
def dK.mono(h:dK w B lb bm v n s){m:Nat}(hm:n<=m):dK w B lb bm v m s:=
 ⟨h.blk,h.row,h.map.mono hm,h.hl,h.hm⟩
def dK.Na{p t:Int}{o:Bool}(h:dK w B lb bm v n s)(f:Fr (fun k=>k=bm) w w2)(hm:iV w2 prog 3 bm (n+1) (iW (s.set p t o).nw)):
 dK w2 B lb bm v (n+1) (s.set p t o):=
 ⟨(f.block lb h.lt h.ne).trans h.blk,f.ownsRow h.row (fun k hk e=>h.YQ<|by rw[hk,e]),hm,h.hl,h.hm⟩
def aZ(o:Obj):Fr aH w (w.alloc o):=(Fr.refl _ _).alloc _
def alk(h:dK w B lb bm v n s)(p t:Int)(hp:(Lit.int .i64 p).wf=true)(hn:n<dH):
 aK prog 126 #[.pointer<|ae ⟨lb,0,af⟩,.int .i64 p,.int .i64 t] w fun e w'=>e=.returned (.bool<|s.yN p t)/\dK w' B lb bm v (n+1) (s.opened p t)/\Fr (fun k=>k=bm) w w':=by
 have c2:w.cell? ⟨lb,2,af⟩=ae (.map<|ae bm):=by rw[aG h.blk];rfl
 have kY:=aCO underlying3 hp;have uo:=h.map.look_ok zN underlying161 (YP w) kY;have aB:=h.lt;have c3:=aDt w ⟨lb,2,af⟩ c2;have H:Hid (dK w B lb bm v n s):=h;have HN:Hid (n<dH):=hn;have HK:Hid (keyOf prog 3 (.int .i64 p)=ae (.int .i64 p)):=kY;rcases hx:s.nw p with _|⟨t',o⟩
 ·rw[show iW s.nw (.int .i64 p)=af by simp[iW,hx]]at uo;simp only[Option.getD_none,Option.isSome_none]at uo;have hc:s.yN p t=true:=by simp[aA.yN,hx]
  rw[show s.opened p t=s.set p t true by simp[aA.opened,hc],hc];clear h hx hc hp hn kY;go_enter func126,ntmps126
  go_wp2_with (at_mapUpdate;refine PM _ rfl _ _ _ 161 rfl 3 189 zN underlying161 bm n (iW s.nw) rfl (by exact(aZ _).zM H.out.map id) HN.out _ _ _ rfl rfl HK.out (iW (s.set p t true).nw) (MX _ _ _ _) (MZ _ _ _ _) ?_;intro w1 qy ht1)
  go_ret;have hf:Fr (fun k=>k=bm) w w1:=((Fr.refl _ _).alloc _).JO ht1<|.inl rfl;exact⟨rfl,H.out.Na hf qy,hf⟩
 ·rw[show iW s.nw (.int .i64 p)=ae (.agg #[.int .i64 t',.bool o])by simp[iW,hx]]at uo;simp only[gQ,Option.isSome_some]at uo;cases o
  ·by_cases nU:t'<t
   ·have hc:s.yN p t=true:=by simp[aA.yN,hx,nU]
    rw[show s.opened p t=s.set p t true by simp[aA.opened,hc],hc];have DF:¬(t<=t'):=by omega
    clear h hx hc hp hn kY;go_enter func126,ntmps126
    go_wp2_with (at_mapUpdate;refine PM _ rfl _ _ _ 161 rfl 3 189 zN underlying161 bm n (iW s.nw) rfl (by exact(aZ _).zM H.out.map id) HN.out _ _ _ rfl rfl HK.out (iW (s.set p t true).nw) (MX _ _ _ _) (MZ _ _ _ _) ?_;intro w1 qy ht1)
    go_ret;have hf:Fr (fun k=>k=bm) w w1:=((Fr.refl _ _).alloc _).JO ht1<|.inl rfl;exact⟨rfl,H.out.Na hf qy,hf⟩
   ·have hc:s.yN p t=false:=by simp[aA.yN,hx,nU]
    rw[show s.opened p t=s by simp[aA.opened,hc],hc];have DF:t<=t':=by omega
    clear h hx hc hp hn kY nU;go_enter func126,ntmps126
    go_wp2
    go_ret;exact⟨rfl,(aZ _).logAt (H.out.mono<|by omega) id id fun _ _=>id,(Fr.refl _ _).alloc _⟩
  ·have hc:s.yN p t=false:=by simp[aA.yN,hx]
   rw[show s.opened p t=s by simp[aA.opened,hc],hc];clear h hx hc hp hn kY;go_enter func126,ntmps126
   go_wp2
   go_ret;exact⟨rfl,(aZ _).logAt (H.out.mono<|by omega) id id fun _ _=>id,(Fr.refl _ _).alloc _⟩
end
end Go.Proofs.YtkelpcjiediamaaGreat
