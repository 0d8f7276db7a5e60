import Derived.Test.YtkelpcjiediamaaGreatQd5
import Derived.Test.YtkelpcjiediamaaGreatQd17
set_option maxRecDepth 100000
set_option maxHeartbeats 0
set_option linter.all false
namespace Go.Proofs.YtkelpcjiediamaaGreat
open Go renaming Value→az
open Go.Value renaming agg→gY
open Option renaming some→ae
open Go.Proofs.Tryz
namespace Twin
open Go Go.Proofs Go.RowKit Go.Maps
def asx{nw:Int->Option (Int×Bool)}{D:DataW az}{es:Array MapEntry}{clock:Nat}(hF:WideElems.Fit prog 3 vg es clock)(hD:D=.map ((es.toList.map<|WideElems.rg prog 3 vg).foldr DataW.insert []))
 (h:∀key kl,keyOf prog 3 key=ae kl->(∀z,D.atKey kl (.held z)=.held ((jw nw key).getD z))/\Maps.has D kl=(jw nw key).isSome):∀e∈es.toList,∃(p:Int) (x:Int×Bool),e.key=.int .i64 p/\e.val=gY #[.int .i64 x.1,.bool x.2]:=by
 intro e he;obtain⟨y,hy⟩:=hF.reads e he;have lT:=WideElems.rd_key hy;have hy2:y.2=.held e.val:=by
  unfold WideElems.rd at hy;simp only[vg,lT,Option.bind_some,GM,gu]at hy;rw[<-hy]
 have dX:∀z,D.atKey y.1 z=.held e.val:=by
  intro z;rw[hD,(WideShapes.atKey_sorted (es.toList.map<|WideElems.rg prog 3 vg) (Maps.fit_rising AV hF) y.1<|AV.key lT).2 (WideElems.rg prog 3 vg e) (Je.2 ⟨e,he,rfl⟩)<|by rw[WideElems.rg_of hy],WideElems.rg_of hy,hy2]
 have QA:=Maps.has_true_of_atKey dX;obtain⟨h1,h2⟩:=h e.key y.1 lT;rw[QA]at h2;generalize hek:e.key=key at*
 unfold jw at h1 h2;split at h2
 ·rename_i p;cases hp:nw p with
  |none=>rw[hp]at h2;cases h2
  |some x=>
   refine⟨p,x,rfl,?_⟩;have:=h1<|.int .i64 0;rw[dX]at this;simp only[hp,GM,ik,aFi]at this;exact this
 ·cases h2
end Twin
end Go.Proofs.YtkelpcjiediamaaGreat
