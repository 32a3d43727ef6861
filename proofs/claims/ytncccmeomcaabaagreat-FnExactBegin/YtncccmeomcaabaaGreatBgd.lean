import Derived.Test.YtncccmeomcaabaaGreatC18
import Derived.Test.YtncccmeomcaabaaGreatBg1
set_option linter.all false
namespace Go.Proofs.YtncccmeomcaabaaGreat
open Go.RowKit Classical
set_option maxRecDepth 100000
def begW (M:Mn)(s:ByteArray)(az:qi):Prop:=MOk M/\az.length<=4/\∃ t,iD M.cn.ps s=some t/\M.cn.tn<1000000000/\tgk M.cn.ps t.1 t.2.1 t.2.2
def begB (M:Mn)(s:ByteArray)(az:qi):Bool:=@decide (MOk M) (aQ8 M)&&decide (az.length<=4)&&match iD M.cn.ps s with
 | some t=>decide (M.cn.tn<1000000000/\tgk M.cn.ps t.1 t.2.1 t.2.2)
 | none=>false
theorem begB_iff {M:Mn}{s:ByteArray}{az:qi}:begB M s az=true ↔ begW M s az:=by
 unfold begB begW
 have e:(@decide (MOk M) (aQ8 M)=true) ↔ MOk M:=⟨@of_decide_eq_true _ (aQ8 M),@decide_eq_true _ (aQ8 M)⟩
 rw [Bool.and_eq_true,Bool.and_eq_true,e,decide_eq_true_eq]
 generalize iD M.cn.ps s=o
 cases o<;>simp [and_assoc]
theorem begB_no {M:Mn}{s:ByteArray}{az:qi}(h:¬ begW M s az):begB M s az=false:=by
 cases e:begB M s az
 .rfl
 .exact absurd (begB_iff.1 e) h
def begC (C:Cn)(L:Lay)(az:qi)(t:Tg):Cn:=gJ (fgC C L az) L t.1 t.2.1 t.2.2
def begF (M:Mn)(s:ByteArray)(az:qi):Cn:=if begB M s az=true then begC M.cn M.L az ((iD M.cn.ps s).getD zT) else M.cn
