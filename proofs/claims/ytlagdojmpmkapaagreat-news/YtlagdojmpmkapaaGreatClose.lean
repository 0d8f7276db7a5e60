/-
  What Close does to a log in memory.
-/
import Derived.Test.YtlagdojmpmkapaaGreatAppend
namespace Go.Proofs.YtlagdojmpmkapaaGreat
open Go.RowKit Go.Maps

end Go.Proofs.YtlagdojmpmkapaaGreat
