import Derived.Test.YtkelpcjiediamaaGreatQf5
import Derived.Test.YtkelpcjiediamaaGreatQf15
set_option maxRecDepth 100000
set_option maxHeartbeats 0
set_option linter.all false
namespace Go.Proofs.YtkelpcjiediamaaGreat
open Go renaming Value→aA
open Go.IntKind renaming i64→ah
open Go.Value renaming agg→iF,int→ag
open Option renaming some→ae
open Go.Proofs.Tryz
namespace Twin
open Go Go.Proofs Go.RowKit Go.Maps
def atb{nw:Int->Option (Int×Bool)}{D:DataW aA}{es:Array MapEntry}{clock:Nat}(hF:WideElems.Fit prog 3 wz es clock)(hD:D=.map ((es.toList.map<|WideElems.rg prog 3 wz).foldr DataW.insert []))
 (h:∀key kl,keyOf prog 3 key=ae kl->(∀z,D.atKey kl (.held z)=.held ((jH nw key).getD z))/\Maps.has D kl=(jH nw key).isSome):∀e∈es.toList,∃(p:Int) (x:Int×Bool),e.key=.int .i64 p/\e.val=iF #[ag ah x.1,.bool x.2]:=by
 intro e he;obtain⟨y,hy⟩:=hF.reads e he;have mG:=WideElems.rd_key hy;have hy2:y.2=.held e.val:=by
  unfold WideElems.rd at hy;simp only[wz,mG,Option.bind_some,Ho,gU]at hy;rw[<-hy]
 have fC:∀z,D.atKey y.1 z=.held e.val:=by
  intro z;rw[hD,(WideShapes.atKey_sorted (es.toList.map<|WideElems.rg prog 3 wz) (Maps.fit_rising Bl hF) y.1<|Bl.key mG).2 (WideElems.rg prog 3 wz e) (Hr.2 ⟨e,he,rfl⟩)<|by rw[WideElems.rg_of hy],WideElems.rg_of hy,hy2]
 have Q7:=Maps.has_true_of_atKey fC;obtain⟨h1,h2⟩:=h e.key y.1 mG;rw[Q7]at h2;generalize hek:e.key=key at*
 unfold jH at h1 h2;split at h2
 ·rename_i p;cases hp:nw p with
  |none=>rw[hp]at h2;cases h2
  |some x=>
   refine⟨p,x,rfl,?_⟩;have:=h1<|.int .i64 0;rw[fC]at this;simp only[hp,Ho,ik,aGv]at this;exact this
 ·cases h2
end Twin
