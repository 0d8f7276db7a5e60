import Derived.Test.YtkelpcjiediamaaGreatQf3
import Derived.Test.YtkelpcjiediamaaGreatQf9
import Derived.Deep.RegionHeld3
import Derived.Deep.DrawnRows
set_option maxRecDepth 100000
set_option maxHeartbeats 0
set_option linter.all false
namespace Go.Proofs.YtkelpcjiediamaaGreat
def aFb:=@Go.heap_alloc_new
def aFm:=@Go.World.ownsRow_nil
def aF2:=@Go.Maps.keyOf_int_mk
def aGH:=@Go.World.new_ne
open Go renaming Calls→aW,Value→aA,World→ay,maxLen→eP
open Go.Ending renaming returned→aV
open Go.IntKind renaming i64→ah
open Go.Obj renaming cells→aG
open Go.RowKit renaming Hid→aj
open Go.Value renaming agg→iF,int→ag,ownBlock→bY,pointer→az,slice→aN
open Go.World renaming alloc→bz,cell?→aB,ownsRow→bD
open Option renaming none→af,some→ae
open Go.Proofs.Tryz
open Go.RowKit Go.Maps
structure iG where
 k:Int
 p:Int
 t:Int
 s:ByteArray
def iG.cs(e:iG):List Value:=[.int .i64 e.k,.int .i64 e.p,.int .i64 e.t,.string e.s]
def pG(l:List iG):List Value:=l.flatMap iG.cs
structure aJ where
 es:List iG
 d:Nat
 nw:Int->Option (Int×Bool)
def jH(nw:Int->Option (Int×Bool)):aA->Option aA
 | .int .i64 p=>(nw p).map fun x=>iF #[ag ah x.1,.bool x.2]
 |_=>af
def aJ.isOpen(s:aJ)(p t:Int):Bool:=decide<|s.nw p=ae (t,true)
structure fA(w:ay)(B lb bm:Nat)(v:aA)(n:Nat)(s:aJ):Prop where
 blk:w.heap[lb]? =ae (aG #[v,ag ah s.d,.map<|ae bm] 163 (0,0))
 row:bD w B 55 4 v s.es.length (pG s.es)
 map:jG w prog 3 bm n (jH s.nw)
 hl:B<=lb
 hm:B<=bm
def Bl:Keyed prog 3:=int_keyed underlying3
def aaO(w:ay):(zeroValue 189).run prog w=.ok (iF #[ag ah 0,.bool false]) w:=by kernel_rfl
def anM(w:ay):aW prog 71 #[] w fun e w'=>e=aV (az<|ae ⟨w.heap.size+1,0,af⟩)/\
 fA w' w.heap.size (w.heap.size+1) w.heap.size (aN af 0 0) 0 ⟨[],0,fun _=>af⟩/\Fr aS w w':=by
 have ZH:=@run_makeMap prog;go_enter func71,ntmps71
 go_wp2
 go_ret;refine⟨rfl,⟨?_,aFm _ _ _ _,?_,by omega,by omega⟩,(dR.alloc _).alloc _⟩
 ·have:=aFb (w.alloc<|.map #[] 0)<|aG #[aN af 0 0,ag ah 0,.map<|ae w.heap.size] 163;simpa using this
 ·refine((Fr.refl (fun _=>False) _).alloc _).Bj (jG.congr (jG.made w prog 3) ?_) fun h=>h;intro key kl _;cases key<;>simp[jH];split<;>rfl
def Ht{w:ay}{B lb bm n:Nat}{v:aA}{s:aJ}(h:fA w B lb bm v n s)(p t:Int)(hp:(Lit.int .i64 p).wf=true):
 aW prog 122 #[az<|ae ⟨lb,0,af⟩,ag ah p,ag ah t] w fun e w'=>e=aV (.bool<|s.isOpen p t)/\w'=w:=by
 have c2:aB w ⟨lb,2,af⟩=ae (.map<|ae bm):=by rw[aQ h.blk];rfl
 have vO:=h.map.look Bl underlying161 (aaO w)<|aF2 underlying3 hp;rcases hx:s.nw p with _|⟨t',o⟩
 ·rw[show jH s.nw (.int .i64 p)=af by simp[jH,hx]]at vO;have hr:s.isOpen p t=false:=by simp[aJ.isOpen,hx]
  simp only[Option.getD_none]at vO;rw[hr];clear h hx hr hp;go_enter func122,ntmps122
  go_wp2
  go_ret;exact⟨rfl,rfl⟩
 ·rw[show jH s.nw (.int .i64 p)=ae (iF #[ag ah t',.bool o])by simp[jH,hx]]at vO;simp only[ik]at vO;by_cases e:t'=t
  ·subst e;have hr:s.isOpen p t'=o:=by
    simp only[aJ.isOpen,hx];cases o<;>simp
   rw[hr];clear h hx hr hp;cases o;all_goals
    go_enter func122,ntmps122
    go_wp2
    go_ret
    exact⟨rfl,rfl⟩
  ·have hr:s.isOpen p t=false:=by
    simp only[aJ.isOpen,hx];cases o<;>simp[e]
   have hb:(t'==t)=false:=by simp[e]
   rw[hr];clear h hx hr hp;go_enter func122,ntmps122
   go_wp2
   go_ret;exact⟨rfl,rfl⟩
section
def aJ.wZ(s:aJ)(p t:Int):Bool:=
 match s.nw p with
 |none=>true
 |some (t',o)=>!o&&decide (t'<t)
def aJ.set(s:aJ)(p t:Int)(o:Bool):aJ:={s with nw:=fun q=>if q=p then ae (t,o)else s.nw q}
def aJ.opened(s:aJ)(p t:Int):aJ:=if s.wZ p t then s.set p t true else s
def OU(nw:Int->Option (Int×Bool))(p t:Int)(o:Bool):jH (fun q=>if q=p then ae (t,o)else nw q) (.int .i64 p)=ae (iF #[ag ah t,.bool o]):=by simp[jH]
def OV(nw:Int->Option (Int×Bool))(p t:Int)(o:Bool)(x:aA)(hx:x≠.int .i64 p):jH (fun q=>if q=p then ae (t,o)else nw q) x=jH nw x:=by
 unfold jH;split
 ·rename_i q;have:q≠p:=fun e=>hx (by rw[e]);simp[this]
 ·rfl
variable{S:Nat->Prop}{w w2:ay}{B lb bm n:Nat}{v:aA}{s:aJ}
def Fr.LG{a:ay}{b:Nat}(h:Fr S a w)(ht:w.mapTurned w2 b)(hb:S b\/a.heap.size<=b):Fr S a w2:=
 h.grown ht.grown (fun k e=>by cases e;exact hb)
def fA.lt(h:fA w B lb bm v n s):lb<w.heap.size:=bn h.blk
def fA.ne(h:fA w B lb bm v n s):lb≠bm:=by
 intro e;obtain⟨D,⟨es,clock,hb,_⟩,_⟩:=h.map;have h1:=h.blk;rw[e,hb]at h1;cases h1
def fA.LH(h:fA w B lb bm v n s):bY v≠ae lb:=by
 intro e;rcases h.row.2 with⟨rfl,_⟩|⟨g,cap,cur,rfl,_,hg,_⟩
 ·simp[Value.ownBlock]at e
 ·simp[Value.ownBlock]at e;have h1:=h.blk;rw[<-e,hg]at h1;cases h1
def fA.aaP(h:fA w B lb bm v n s):bY v≠ae bm:=by
 intro e;obtain⟨D,⟨es,clock,hb,_⟩,_⟩:=h.map;rcases h.row.2 with⟨rfl,_⟩|⟨g,cap,cur,rfl,_,hg,_⟩
 ·simp[Value.ownBlock]at e
 ·simp[Value.ownBlock]at e;rw[<-e,hg]at hb;cases hb
def Fr.logAt(f:Fr S w w2)(h:fA w B lb bm v n s)(h1:¬S lb)(h2:¬S bm)(h3:∀k,bY v=ae k->¬S k):fA w2 B lb bm v n s:=
 ⟨(f.block lb h.lt h1).t h.blk,f.ownsRow h.row h3,f.Bj h.map h2,h.hl,h.hm⟩
def fA.z(h:fA w B lb bm v n s){m:Nat}(hm:n<=m):fA w B lb bm v m s:=
 ⟨h.blk,h.row,h.map.z hm,h.hl,h.hm⟩
def fA.OW{p t:Int}{o:Bool}(h:fA w B lb bm v n s)(f:Fr (fun k=>k=bm) w w2)(hm:jG w2 prog 3 bm (n+1) (jH (s.set p t o).nw)):
 fA w2 B lb bm v (n+1) (s.set p t o):=
 ⟨(f.block lb h.lt h.ne).t h.blk,f.ownsRow h.row (fun k hk e=>h.aaP<|by rw[hk,e]),hm,h.hl,h.hm⟩
def bQ(o:Obj):Fr aS w (bz w o):=dR.alloc _
def anN(h:fA w B lb bm v n s)(p t:Int)(hp:(Lit.int .i64 p).wf=true)(hn:n<eP):
 aW prog 126 #[az<|ae ⟨lb,0,af⟩,ag ah p,ag ah t] w fun e w'=>e=aV (.bool<|s.wZ p t)/\fA w' B lb bm v (n+1) (s.opened p t)/\Fr (fun k=>k=bm) w w':=by
 have c2:aB w ⟨lb,2,af⟩=ae (.map<|ae bm):=by rw[aQ h.blk];rfl
 have mG:=aF2 underlying3 hp;have vO:=h.map.look_ok Bl underlying161 (aaO w) mG;have aK:=h.lt;have c3:=aGH w ⟨lb,2,af⟩ c2;have H:aj (fA w B lb bm v n s):=h;have HN:aj (n<eP):=hn;have HK:aj (keyOf prog 3 (.int .i64 p)=ae (.int .i64 p)):=mG;rcases hx:s.nw p with _|⟨t',o⟩
 ·rw[show jH s.nw (.int .i64 p)=af by simp[jH,hx]]at vO;simp only[Option.getD_none,Option.isSome_none]at vO;have hc:s.wZ p t=true:=by simp[aJ.wZ,hx]
  rw[show s.opened p t=s.set p t true by simp[aJ.opened,hc],hc];clear h hx hc hp hn mG;go_enter func126,ntmps126
  go_wp2_with (at_mapUpdate;refine RN _ rfl _ _ _ 161 rfl 3 189 Bl underlying161 bm n (jH s.nw) rfl (by exact(bQ _).Bj H.o.map id) HN.o _ _ _ rfl rfl HK.o (jH (s.set p t true).nw) (OU _ _ _ _) (OV _ _ _ _) ?_;intro w1 rH ht1)
  go_ret;have hf:Fr (fun k=>k=bm) w w1:=(dR.alloc _).LG ht1<|.inl rfl;exact⟨rfl,H.o.OW hf rH,hf⟩
 ·rw[show jH s.nw (.int .i64 p)=ae (iF #[ag ah t',.bool o])by simp[jH,hx]]at vO;simp only[ik,Option.isSome_some]at vO;cases o
  ·by_cases nH:t'<t
   ·have hc:s.wZ p t=true:=by simp[aJ.wZ,hx,nH]
    rw[show s.opened p t=s.set p t true by simp[aJ.opened,hc],hc];have ET:¬(t<=t'):=by omega
    clear h hx hc hp hn mG;go_enter func126,ntmps126
    go_wp2_with (at_mapUpdate;refine RN _ rfl _ _ _ 161 rfl 3 189 Bl underlying161 bm n (jH s.nw) rfl (by exact(bQ _).Bj H.o.map id) HN.o _ _ _ rfl rfl HK.o (jH (s.set p t true).nw) (OU _ _ _ _) (OV _ _ _ _) ?_;intro w1 rH ht1)
    go_ret;have hf:Fr (fun k=>k=bm) w w1:=(dR.alloc _).LG ht1<|.inl rfl;exact⟨rfl,H.o.OW hf rH,hf⟩
   ·have hc:s.wZ p t=false:=by simp[aJ.wZ,hx,nH]
    rw[show s.opened p t=s by simp[aJ.opened,hc],hc];have ET:t<=t':=by omega
    clear h hx hc hp hn mG nH;go_enter func126,ntmps126
    go_wp2
    go_ret;exact⟨rfl,(bQ _).logAt (H.o.z<|by omega) id id fun _ _=>id,dR.alloc _⟩
  ·have hc:s.wZ p t=false:=by simp[aJ.wZ,hx]
   rw[show s.opened p t=s by simp[aJ.opened,hc],hc];clear h hx hc hp hn mG;go_enter func126,ntmps126
   go_wp2
   go_ret;exact⟨rfl,(bQ _).logAt (H.o.z<|by omega) id id fun _ _=>id,dR.alloc _⟩
end
