/-
  What Close does to a log in memory.
-/
import Derived.Test.YtkelpcjiediamaaGreatAppend
namespace Go.Proofs.YtkelpcjiediamaaGreat
open Go.RowKit Go.Maps

end Go.Proofs.YtkelpcjiediamaaGreat
