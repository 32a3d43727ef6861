import Derived.Test.YtngdgogjlpjjpacK33
namespace Go.Proofs.Ytngdgogjlpjjpac
open Go.RowKit
set_option linter.unusedVariables false
set_option linter.unusedSimpArgs false
set_option maxRecDepth 100000

set_option maxHeartbeats 1000000 in
theorem toExport_any (s : ByteArray) (b i : Int) (w : World) :
    Calls Try.prog 117 #[.agg #[.string s, .int .i64 b, .int .i64 i]] w fun e w' => e = .returned (.agg #[.string s, .int .i64 b, .int .i64 i]) ∧ Below w.heap.size w w' := by
  go_enter Try.func117, Try.ntmps117
  go_wp2
  refine bodyPost_ret (v := .agg #[.string s, .int .i64 b, .int .i64 i]) (by simp [results, Try.results117, go_sem]) rfl ⟨rfl, ?_⟩
  exact ((((Below.refl _ _).alloc (Nat.le_refl _) _).alloc (by simp) _).alloc (by simp; omega) _)

set_option maxHeartbeats 1000000 in
theorem eqExport_same (s : ByteArray) (b i : Int) (w : World) :
    Calls Try.prog 120 #[.agg #[.string s, .int .i64 b, .int .i64 i], .agg #[.string s, .int .i64 b, .int .i64 i]] w fun e w' => e = .returned (.bool true) ∧ Below w.heap.size w w' := by
  have h1 : (s.toList != s.toList) = false := by simp
  have h2 : (b != b) = false := by simp
  have h3 : (i != i) = false := by simp
  have hB0 : Below w.heap.size w ((w.alloc (.cells #[.string s, .int .i64 b, .int .i64 i] 86)).alloc (.cells #[.string s, .int .i64 b, .int .i64 i] 86)) := ((Below.refl _ _).alloc (Nat.le_refl _) _).alloc (by simp) _
  have HB := hide hB0
  clear hB0
  go_enter Try.func120, Try.ntmps120
  go_wp2
  go_ret
  exact ⟨rfl, by first | exact HB.out | exact below_drewN HB.out _⟩
end Go.Proofs.Ytngdgogjlpjjpac
