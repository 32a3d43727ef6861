import Derived.Test.YtngdgogjlpjjpacK03
import Derived.Laws.BitsLemmas
namespace Go.Proofs.Ytngdgogjlpjjpac
open Go.RowKit
set_option linter.unusedVariables false

/-- WHICH FIELDS AN OPERATION USES: D 1, A 2, Imm 4; -1 where there is none. -/
def us (op : Int) : Int :=
  if op = 1 ∨ op = 25 then 0 else if op = 2 ∨ op = 3 ∨ op = 21 ∨ op = 22 then 5 else if op = 6 ∨ (14 ≤ op ∧ op ≤ 19) then 7
  else if op = 20 ∨ op = 23 ∨ op = 24 then 4 else if 4 ≤ op ∧ op ≤ 13 then 3 else -1
theorem us_out (op : Int) (h : op ≤ 0 ∨ 26 ≤ op) : us op = -1 := by
  unfold us
  rw [if_neg (by omega), if_neg (by omega), if_neg (by omega), if_neg (by omega), if_neg (by omega)]
theorem us_is (op : Int) : us op = -1 ∨ us op = 0 ∨ us op = 3 ∨ us op = 4 ∨ us op = 5 ∨ us op = 7 := by
  unfold us
  split
  · simp
  · split
    · simp
    · split
      · simp
      · split
        · simp
        · split <;> simp
theorem op_cases (op : Int) : op ≤ 0 ∨ 26 ≤ op ∨ op = 1 ∨ op = 2 ∨ op = 3 ∨ op = 4 ∨ op = 5 ∨ op = 6 ∨ op = 7 ∨ op = 8 ∨ op = 9 ∨ op = 10 ∨ op = 11 ∨ op = 12 ∨ op = 13 ∨ op = 14 ∨ op = 15 ∨ op = 16 ∨ op = 17 ∨ op = 18 ∨ op = 19 ∨ op = 20 ∨ op = 21 ∨ op = 22 ∨ op = 23 ∨ op = 24 ∨ op = 25 := by omega

/-- the greatest fields -/
def mD (u : Int) : Int := if u % 2 = 1 then 7 else 0
def mA (u : Int) : Int := if u / 2 % 2 = 1 then 7 else 0
def mI (u : Int) : Int := if u / 4 = 1 then 65535 else 0
/-- WHAT AN INSTRUCTION IS. -/
def okU (u d a i : Int) : Bool := decide (0 ≤ u ∧ 0 ≤ d ∧ d ≤ mD u ∧ 0 ≤ a ∧ a ≤ mA u ∧ 0 ≤ i ∧ i ≤ mI u)
def okI (op d a i : Int) : Bool := okU (us op) d a i

set_option maxHeartbeats 1000000 in
theorem l3Uses_any (op : Int) (w : World) :
    Calls Try.prog 158 #[.int .i64 op] w fun e w' => e = .returned (.int .i64 (us op)) ∧ w = w' := by
  rcases op_cases op with h | h | rfl | rfl | rfl | rfl | rfl | rfl | rfl | rfl | rfl | rfl | rfl | rfl | rfl | rfl | rfl | rfl | rfl | rfl | rfl | rfl | rfl | rfl | rfl | rfl | rfl
  · have HU := hide (us_out op (Or.inl h))
    have e1 : (op == 1) = false := by simp; omega
    have e25 : (op == 25) = false := by simp; omega
    have e2 : (op == 2) = false := by simp; omega
    have e3 : (op == 3) = false := by simp; omega
    have e21 : (op == 21) = false := by simp; omega
    have e22 : (op == 22) = false := by simp; omega
    have e6 : (op == 6) = false := by simp; omega
    have e20 : (op == 20) = false := by simp; omega
    have e23 : (op == 23) = false := by simp; omega
    have e24 : (op == 24) = false := by simp; omega
    go_enter Try.func158, Try.ntmps158
    go_wp2
    go_ret
    exact ⟨ret_int HU.out.symm, rfl⟩
  · have HU := hide (us_out op (Or.inr h))
    have e1 : (op == 1) = false := by simp; omega
    have e25 : (op == 25) = false := by simp; omega
    have e2 : (op == 2) = false := by simp; omega
    have e3 : (op == 3) = false := by simp; omega
    have e21 : (op == 21) = false := by simp; omega
    have e22 : (op == 22) = false := by simp; omega
    have e6 : (op == 6) = false := by simp; omega
    have e20 : (op == 20) = false := by simp; omega
    have e23 : (op == 23) = false := by simp; omega
    have e24 : (op == 24) = false := by simp; omega
    go_enter Try.func158, Try.ntmps158
    go_wp2
    go_ret
    exact ⟨ret_int HU.out.symm, rfl⟩
  all_goals
    go_enter Try.func158, Try.ntmps158
    go_wp2
    go_ret
    exact ⟨ret_int (by decide), rfl⟩

set_option maxHeartbeats 2000000 in
theorem l3InsOk_any (op d a i : Int) (w : World) :
    Calls Try.prog 156 #[.agg #[.int .i64 op, .int .i64 d, .int .i64 a, .int .i64 i]] w fun e w' => e = .returned (.bool (okI op d a i)) ∧ Below w.heap.size w w' := by
  have HU := hide (l3Uses_any op)
  unfold okI
  have hu := us_is op
  generalize us op = u at *
  rcases hu with rfl | rfl | rfl | rfl | rfl | rfl
  all_goals
    go_enter Try.func156, Try.ntmps156
    go_wp2_with (go_at_call 158; refine (HU.out _).mono ?_; rintro e w' ⟨rfl, rfl⟩)
    all_goals
      go_ret
      refine ⟨ret_bool ?_, (Below.refl _ _).alloc (Nat.le_refl _) _⟩
      rw [Bool.eq_iff_iff]
      simp [okU, mD, mA, mI]
      try omega
end Go.Proofs.Ytngdgogjlpjjpac
