import Derived.Test.YtkelpcjiediamaaGreatQf0
import Derived.Test.YtkelpcjiediamaaGreatQf3
import Derived.Shelf.Sort.Plain
import Derived.Shelf.Slices.In.SortNone
import Derived.Test.YtkelpcjiediamaaGreatProg
set_option maxRecDepth 100000
set_option maxHeartbeats 0
set_option linter.all false
namespace Go.Proofs.YtkelpcjiediamaaGreat
open Go renaming Calls→aW,World→ay
open Go.Ending renaming returned→aV
open Go.Value renaming slice→aN,tuple→dU
open Option renaming none→af,some→ae
open Go.Proofs.Tryz
open Go.Shelf
def aok:Go.Shelf.Ren:=⟨fun|189=>123|125=>176|257=>175|128=>205|129=>206|294=>196|295=>197|296=>198|297=>199|298=>200|299=>201|216=>202|300=>203|301=>204|328=>207|329=>208|330=>209|331=>210|332=>211|215=>212|343=>213|n=>n,fun|28=>43|3=>3|46=>214|0=>0|51=>175|53=>172|4=>4|183=>253|182=>252|131=>257|5=>5|9=>9|218=>261|222=>264|228=>266|229=>267|n=>n,fun|n=>n⟩
def agp:Go.Proofs.Lays.n189 prog aok:={
 mixed:=by kernel_rfl
 f125:=func176.t<|gy ae<|by kernel_rfl
 f128:=func205.t<|gy ae<|by kernel_rfl
 f129:=func206.t<|gy ae<|by kernel_rfl
 f189:=func123.t<|gy ae<|by kernel_rfl
 f215:=func212.t<|gy ae<|by kernel_rfl
 f216:=func202.t<|gy ae<|by kernel_rfl
 f257:=func175.t<|gy ae<|by kernel_rfl
 f294:=func196.t<|gy ae<|by kernel_rfl
 f295:=func197.t<|gy ae<|by kernel_rfl
 f296:=func198.t<|gy ae<|by kernel_rfl
 f297:=func199.t<|gy ae<|by kernel_rfl
 f298:=func200.t<|gy ae<|by kernel_rfl
 f299:=func201.t<|gy ae<|by kernel_rfl
 f300:=func203.t<|gy ae<|by kernel_rfl
 f301:=func204.t<|gy ae<|by kernel_rfl
 f328:=func207.t<|gy ae<|by kernel_rfl
 f329:=func208.t<|gy ae<|by kernel_rfl
 f330:=func209.t<|gy ae<|by kernel_rfl
 f331:=func210.t<|gy ae<|by kernel_rfl
 f332:=func211.t<|gy ae<|by kernel_rfl
 f343:=func213.t<|gy ae<|by kernel_rfl
 t0:=underlying0
 a0:=isAgg0
 z0:=sizeOf0
 v0:=zeroValue0
 t3:=underlying3
 a3:=isAgg3
 z3:=sizeOf3
 v3:=zeroValue3
 t4:=underlying4
 a4:=isAgg4
 z4:=sizeOf4
 v4:=zeroValue4
 t5:=underlying5
 a5:=isAgg5
 z5:=sizeOf5
 v5:=zeroValue5
 t9:=underlying9
 a9:=isAgg9
 z9:=sizeOf9
 v9:=zeroValue9
 t28:=underlying43
 a28:=isAgg43
 z28:=sizeOf43
 v28:=zeroValue43
 t46:=underlying214
 a46:=isAgg214
 z46:=sizeOf214
 v46:=zeroValue214
 t51:=underlying175
 a51:=isAgg175
 z51:=sizeOf175
 v51:=zeroValue175
 t53:=underlying172
 a53:=isAgg172
 z53:=sizeOf172
 v53:=zeroValue172
 t131:=underlying257
 a131:=isAgg257
 z131:=sizeOf257
 v131:=zeroValue257
 t182:=underlying252
 a182:=isAgg252
 z182:=sizeOf252
 v182:=zeroValue252
 t183:=underlying253
 a183:=isAgg253
 z183:=sizeOf253
 v183:=zeroValue253
 t218:=underlying261
 a218:=isAgg261
 z218:=sizeOf261
 v218:=zeroValue261
 t222:=underlying264
 a222:=isAgg264
 z222:=sizeOf264
 v222:=zeroValue264
 t228:=underlying266
 a228:=isAgg266
 z228:=sizeOf266
 v228:=zeroValue266
 t229:=underlying267
 a229:=isAgg267
 z229:=sizeOf267
 v229:=zeroValue267}
open Go.Sort Go.RowKit in
def slices_Sort_int(blk off cap:Nat)(zs:List Int)(w:ay)(hH:Holds (Value.int .i64) w blk off zs.toArray)(NT:blk<w.heap.size)(fP:zs.length<4611686018427387904):
 aW prog 123 #[aN (ae ⟨blk,off,af⟩) zs.length cap] w fun e w'=>
  e=aV (dU #[])/\∃n os,w'=grow (putRow (Value.int .i64) (Sort.ahead w n) blk off (zs.mergeSort fun x y=>decide<|x<=y).toArray) os:=Any.slices_Sort_int agp blk off cap zs w hH NT fP
def aol(p:Option Addr)(cap:Nat)(w:ay):aW prog 123 #[.slice p 0 cap] w fun e w'=>e=aV (dU #[])/\w'=w:=
 Any.slices_Sort_int_none agp p cap w
