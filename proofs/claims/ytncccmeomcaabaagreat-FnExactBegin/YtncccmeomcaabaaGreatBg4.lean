import Derived.Test.YtncccmeomcaabaaGreatBgo
import Derived.Test.YtncccmeomcaabaaGreatBg2
import Derived.Test.YtncccmeomcaabaaGreatBgd
import Derived.Test.YtncccmeomcaabaaGreatBg4n
import Derived.Test.YtncccmeomcaabaaGreatBg4y
set_option linter.all false
namespace Go.Proofs.YtncccmeomcaabaaGreat
open Go.RowKit Classical
set_option maxRecDepth 100000
theorem sBegin_any (M:Mn)(g b1 o1 b2 o2 b3 o3 b4 o4:Nat)(Ls:List (PMod×Mb))(s:ByteArray)(a:qO)(n cap:Nat)(az:qi)(w:World)(h:MnD w M)(H:MnS w M g b1 o1 b2 o2 b3 o3 b4 o4 Ls)(hs:s.size<=1048576)(ha:IS w a n cap az):Calls Tryz.prog 14 #[.agg (qA M),.string s,qS a n cap] w (MQ w (.bool (begB M s az)) (begF M s az)):=by
 by_cases hw:begW M s az
 .rw [begB_iff.2 hw];exact sBegin_yes M g b1 o1 b2 o2 b3 o3 b4 o4 Ls s a n cap az w h H hs ha hw
 .unfold begF;rw [begB_no hw];exact sBegin_no M g b1 o1 b2 o2 b3 o3 b4 o4 Ls s a n cap az w h H hs ha hw
