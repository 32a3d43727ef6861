import Derived.Deep.RegionHeld3
import Derived.Test.YtncccmeomcaabaaGreatD20
set_option linter.all false
namespace Go.Proofs.YtncccmeomcaabaaGreat
open Go.RowKit Classical
set_option maxRecDepth 100000
theorem ob_new (w:qw)(base:Nat)(hb:base<=w.heap.size):OB (w.alloc (.cells #[] 5)) base (qS (qP w.heap.size) 0 0) []:=
 ⟨⟨by simp,.inr ⟨w.heap.size,0,#[],rfl,hb,heap_alloc_new w _,aN,by unfold maxLen;omega,rfl,rfl⟩⟩,by simp⟩
