import Derived.Test.YtncccmeomcaabaaGreatD21
import Derived.Test.YtncccmeomcaabaaGreatBg4
set_option linter.all false
namespace Go.Proofs.YtncccmeomcaabaaGreat
open Go.ChangeShapes Go.WideShapes Go.ChangeAt Go.RowKit Classical
set_option maxRecDepth 100000 in
set_option maxHeartbeats 64000000 in
theorem closedFnExactBegin:joinedFacts Tryz.pinned.checked.prog 4 Tryz.f4 Rows.fnExactBeginSpec Rows.fnExactBeginRow=true:=by
 unfold joinedFacts;simp only [Bool.and_eq_true]
 repeat' apply xA
 all_goals (as_aux_lemma=>kernel_rfl)
theorem namedFnExactBegin:Tryz.pinned.checked.prog.funcNamed Rows.fnExactBeginRow.func=some 4:=by kernel_rfl
