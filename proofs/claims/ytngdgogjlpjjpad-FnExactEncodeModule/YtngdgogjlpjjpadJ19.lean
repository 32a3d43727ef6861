import Derived.Test.YtngdgogjlpjjpadJ18
namespace Go.Proofs.Ytngdgogjlpjjpad
open Go.RowKit
set_option linter.unusedVariables false
set_option linter.unusedSimpArgs false
set_option maxRecDepth 100000

set_option maxHeartbeats 1000000 in
theorem eqStringS_same (a a' : Option Addr) (n cap cap' : Nat) (ss : List ByteArray) (w : World) (h : TS w a n cap ss) (h' : TS w a' n cap' ss) :
    Calls Try.prog 53 #[.slice a n cap, .slice a' n cap'] w fun e w' => e = .returned (.bool true) ∧ Below w.heap.size w w' := by
  have hm := h.2.1
  unfold maxLen at hm
  have hnn : ((n : Int) != (n : Int)) = false := by simp
  go_enter Try.func53, Try.ntmps53
  go_wp2_with fail
  go_loopw [5] (fun i wr => ∃ k : Nat, k ≤ n ∧ i = .int .i64 k ∧ Below w.heap.size w wr) (fun i _ => n - (intOf i).toNat)
  case atStart => exact ⟨0, Nat.zero_le _, rfl, Below.refl _ _⟩
  case round =>
    obtain ⟨k, hk, rfl, hB⟩ := hrel
    by_cases hlt : k < n
    · have hlt' : (k : Int) < (n : Int) := by omega
      obtain ⟨b, off, rfl, y1⟩ := (h.below hB).at k hlt
      obtain ⟨b', off', rfl, y2⟩ := (h'.below hB).at k hlt
      generalize ss.getD k zS = s at *
      have hss : (s.toList != s.toList) = false := by simp
      go_wp2_with fail
      go_quiet (fail)
      go_wp2
      go_roundw
      case rel => exact ⟨k + 1, by omega, by go_num, below_drewN hB nq⟩
      case measure => simp [intOf]; omega
    · go_wp2
      go_ret
      exact ⟨rfl, hB⟩
end Go.Proofs.Ytngdgogjlpjjpad

namespace Go.Proofs.Ytngdgogjlpjjpad
open Go.RowKit
set_option linter.unusedVariables false
set_option linter.unusedSimpArgs false
set_option maxRecDepth 100000

set_option maxHeartbeats 1000000 in
theorem toExport_any (s : ByteArray) (b i : Int) (w : World) :
    Calls Try.prog 89 #[.agg #[.string s, .int .i64 b, .int .i64 i]] w fun e w' => e = .returned (.agg #[.string s, .int .i64 b, .int .i64 i]) ∧ Below w.heap.size w w' := by
  go_enter Try.func89, Try.ntmps89
  go_wp2
  refine bodyPost_ret (v := .agg #[.string s, .int .i64 b, .int .i64 i]) (by simp [results, Try.results89, go_sem]) rfl ⟨rfl, ?_⟩
  exact ((((Below.refl _ _).alloc (Nat.le_refl _) _).alloc (by simp) _).alloc (by simp; omega) _)

set_option maxHeartbeats 1000000 in
theorem eqExport_same (s : ByteArray) (b i : Int) (w : World) :
    Calls Try.prog 90 #[.agg #[.string s, .int .i64 b, .int .i64 i], .agg #[.string s, .int .i64 b, .int .i64 i]] w fun e w' => e = .returned (.bool true) ∧ Below w.heap.size w w' := by
  have h1 : (s.toList != s.toList) = false := by simp
  have h2 : (b != b) = false := by simp
  have h3 : (i != i) = false := by simp
  have hB0 : Below w.heap.size w ((w.alloc (.cells #[.string s, .int .i64 b, .int .i64 i] 58)).alloc (.cells #[.string s, .int .i64 b, .int .i64 i] 58)) := ((Below.refl _ _).alloc (Nat.le_refl _) _).alloc (by simp) _
  have HB := hide hB0
  clear hB0
  go_enter Try.func90, Try.ntmps90
  go_wp2
  go_ret
  exact ⟨rfl, by first | exact HB.out | exact below_drewN HB.out _⟩
end Go.Proofs.Ytngdgogjlpjjpad
