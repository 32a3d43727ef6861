import Derived.Test.YthnelonbpbhhbaaBase
namespace Go.Proofs.Ythnelonbpbhhbaa
open Go.RowKit
set_option linter.unusedVariables false

/-- WHAT A VALID CONFIGURATION IS. -/
def cfo (s w k d : Int) : Bool := decide (0 ≤ s ∧ s ≤ 4 ∧ 1 ≤ w ∧ w ≤ 64 ∧ 0 ≤ k ∧ k ≤ 1024 ∧ k % 32 = 0 ∧ 0 ≤ d ∧ d ≤ 100)

set_option maxHeartbeats 400000 in
theorem grained_any (x : Int) (w : World) :
    Calls Try.prog 31 #[.int .i64 x] w fun e w' => e = .returned (.bool (decide (0 ≤ x ∧ x % 32 = 0))) ∧ w = w' := by
  go_enter Try.func31, Try.ntmps31
  go_wp2
  all_goals
    go_ret
    refine ⟨ret_bool ?_, rfl⟩
    rw [Bool.eq_iff_iff]
    simp
    try omega
set_option maxHeartbeats 400000 in
theorem upTo_any (v m : Int) (w : World) :
    Calls Try.prog 32 #[.int .i64 v, .int .i64 m] w fun e w' => e = .returned (.bool (decide (0 ≤ v ∧ v ≤ m))) ∧ w = w' := by
  go_enter Try.func32, Try.ntmps32
  go_wp2
  all_goals
    go_ret
    refine ⟨ret_bool ?_, rfl⟩
    rw [Bool.eq_iff_iff]
    simp
    try omega

set_option maxHeartbeats 1000000 in
theorem sConfigOk_any (s c k d : Int) (w : World) :
    Calls Try.prog 9 #[.agg #[.int .i64 s, .int .i64 c, .int .i64 k, .int .i64 d]] w fun e w' => e = .returned (.bool (cfo s c k d)) ∧ Below w.heap.size w w' := by
  have HB := hide ((Below.refl w.heap.size w).alloc (Nat.le_refl _) (.cells #[.int .i64 s, .int .i64 c, .int .i64 k, .int .i64 d] 25))
  go_enter Try.func9, Try.ntmps9
  go_wp2
  all_goals
    go_ret
    refine ⟨ret_bool ?_, HB.out⟩
    unfold cfo
    rw [Bool.eq_iff_iff]
    simp
    try omega

set_option maxHeartbeats 1000000 in
theorem iConfigOk_any (s c k d : Int) (w : World) :
    Calls Try.prog 11 #[.agg #[.int .i64 s, .int .i64 c, .int .i64 k, .int .i64 d]] w fun e w' => e = .returned (.bool (cfo s c k d)) ∧ Below w.heap.size w w' := by
  have HB := hide ((Below.refl w.heap.size w).alloc (Nat.le_refl _) (.cells #[.int .i64 s, .int .i64 c, .int .i64 k, .int .i64 d] 25))
  have HF : ∀ b : Bool, b = cfo s c k d ↔ (b = true ↔ (0 ≤ s ∧ s ≤ 4 ∧ 1 ≤ c ∧ c ≤ 64 ∧ 0 ≤ k ∧ k ≤ 1024 ∧ k % 32 = 0 ∧ 0 ≤ d ∧ d ≤ 100)) := fun b => by unfold cfo; rw [Bool.eq_iff_iff]; simp
  have HF := hide HF
  go_enter Try.func11, Try.ntmps11
  go_wp2_with (first
    | (go_at_call 31; refine (grained_any _ _).mono ?_; rintro e w1 ⟨rfl, rfl⟩)
    | (go_at_call 32; refine (upTo_any _ _ _).mono ?_; rintro e w1 ⟨rfl, rfl⟩))
  all_goals
    go_ret
    refine ⟨ret_bool ?_, HB.out⟩
    rw [HF.out]
    simp_all
    try omega

set_option maxHeartbeats 1000000 in
theorem toConfig_any (s c k d : Int) (w : World) :
    Calls Try.prog 10 #[.agg #[.int .i64 s, .int .i64 c, .int .i64 k, .int .i64 d]] w fun e w' => e = .returned (.agg #[.int .i64 s, .int .i64 c, .int .i64 k, .int .i64 d]) ∧ Below w.heap.size w w' := by
  go_enter Try.func10, Try.ntmps10
  go_wp2
  refine bodyPost_ret (v := .agg #[.int .i64 s, .int .i64 c, .int .i64 k, .int .i64 d]) (by simp [results, Try.results10, go_sem]) rfl ⟨rfl, ?_⟩
  exact ((((Below.refl _ _).alloc (Nat.le_refl _) _).alloc (by simp) _).alloc (by simp; omega) _)
end Go.Proofs.Ythnelonbpbhhbaa
