import Derived.Test.YtkelpcjiediamaaGreatQb6
import Derived.Test.YtkelpcjiediamaaGreatQb26
set_option maxRecDepth 100000
set_option maxHeartbeats 0
set_option linter.all false
namespace Go.Proofs.YtkelpcjiediamaaGreat
open Go renaming Value→aj
open Option renaming some→ae
open Go.Proofs.Tryz
namespace Twin
open Go Go.Proofs Go.RowKit Go.Maps
def aqJ{nw:Int->Option (Int×Bool)}{D:DataW aj}{es:Array MapEntry}{clock:Nat}(hF:WideElems.Fit prog 3 uD es clock)(hD:D=.map ((es.toList.map<|WideElems.rg prog 3 uD).foldr DataW.insert []))
 (h:∀key kl,keyOf prog 3 key=ae kl->(∀z,D.atKey kl (.held z)=.held ((iW nw key).getD z))/\Maps.has D kl=(iW nw key).isSome):∀e∈es.toList,∃(p:Int) (x:Int×Bool),e.key=.int .i64 p/\e.val=.agg #[.int .i64 x.1,.bool x.2]:=by
 intro e he;obtain⟨y,hy⟩:=hF.reads e he;have kY:=WideElems.rd_key hy;have hy2:y.2=.held e.val:=by
  unfold WideElems.rd at hy;simp only[uD,kY,Option.bind_some,FB,fJ]at hy;rw[<-hy]
 have dM:∀z,D.atKey y.1 z=.held e.val:=by
  intro z;rw[hD,(WideShapes.atKey_sorted (es.toList.map<|WideElems.rg prog 3 uD) (Maps.fit_rising zN hF) y.1<|zN.key kY).2 (WideElems.rg prog 3 uD e) (Ie.2 ⟨e,he,rfl⟩)<|by rw[WideElems.rg_of hy],WideElems.rg_of hy,hy2]
 have Pj:=Maps.has_true_of_atKey dM;obtain⟨h1,h2⟩:=h e.key y.1 kY;rw[Pj]at h2;generalize hek:e.key=key at*
 unfold iW at h1 h2;split at h2
 ·rename_i p;cases hp:nw p with
  |none=>rw[hp]at h2;cases h2
  |some x=>
   refine⟨p,x,rfl,?_⟩;have:=h1<|.int .i64 0;rw[dM]at this;simp only[hp,FB,gQ,aDi]at this;exact this
 ·cases h2
end Twin
end Go.Proofs.YtkelpcjiediamaaGreat
