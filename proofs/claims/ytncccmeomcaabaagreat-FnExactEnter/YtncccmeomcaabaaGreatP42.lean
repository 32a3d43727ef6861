import Derived.ChangeOld
import Derived.OpenShut
import Derived.ProofKit
import Derived.ShutString
import Derived.Test.YtncccmeomcaabaaGreatP00
namespace Go.Proofs.YtncccmeomcaabaaGreat
open Go.ChangeShapes Go.WideShapes Go.ChangeAt Go.RowKit
set_option linter.unusedVariables false
set_option maxRecDepth 100000 in
set_option maxHeartbeats 64000000 in
theorem mK:joinedFacts Tryz.pinned.checked.prog 5 Tryz.f5 Rows.fnExactEnterSpec Rows.fnExactEnterRow=true:=by
 unfold joinedFacts;simp only [Bool.and_eq_true]
 repeat' apply xA
 all_goals (as_aux_lemma=>kernel_rfl)
theorem nC:Tryz.pinned.checked.prog.funcNamed Rows.fnExactEnterRow.func=some 5:=by kernel_rfl
