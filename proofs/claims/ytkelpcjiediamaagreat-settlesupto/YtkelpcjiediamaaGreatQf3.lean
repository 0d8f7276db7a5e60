import Derived.Below
import Derived.Control
import Derived.Calls
set_option maxRecDepth 100000
set_option maxHeartbeats 0
set_option linter.all false
namespace Go.Proofs.YtkelpcjiediamaaGreat
theorem _root_.Go.RowKit.Hid.o{p:Prop}(h:RowKit.Hid p):p:=h
def _root_.Go.Calls.z:=@Calls.mono
theorem wK{G:Program}{c:Code}{a:Act}{w:World}{P:Exit->Act->World->Prop}(h:∀Q0,RowKit.Hid (P=Q0)->c.wp G Q0 a w):c.wp G P a w:=h P rfl
