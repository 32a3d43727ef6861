import Derived.Test.YtncccmeomcaabaaGreatC18
import Derived.Test.YtncccmeomcaabaaGreatBg1
set_option linter.all false
namespace Go.Proofs.YtncccmeomcaabaaGreat
open Go.RowKit
set_option maxRecDepth 100000
def begW (M:Mn)(s:ByteArray)(az:qi):Prop:=MOk M/\az.length<=4/\∃ t,iD M.cn.ps s=some t/\M.cn.tn<1000000000/\tgk M.cn.ps t.1 t.2.1 t.2.2
noncomputable def begB (M:Mn)(s:ByteArray)(az:qi):Bool:=@decide (begW M s az) (Classical.propDecidable _)
theorem begB_iff {M:Mn}{s:ByteArray}{az:qi}:begB M s az=true ↔ begW M s az:=by unfold begB;simp only [decide_eq_true_eq]
theorem begB_no {M:Mn}{s:ByteArray}{az:qi}(h:¬ begW M s az):begB M s az=false:=by
 cases e:begB M s az
 .rfl
 .exact absurd (begB_iff.1 e) h
def begC (C:Cn)(L:Lay)(az:qi)(t:Tg):Cn:=gJ (fgC C L az) L t.1 t.2.1 t.2.2
noncomputable def begF (M:Mn)(s:ByteArray)(az:qi):Cn:=if begB M s az=true then begC M.cn M.L az ((iD M.cn.ps s).getD zT) else M.cn
