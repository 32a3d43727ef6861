import Derived.Test.YthnelonbpbhhbaaCv13
namespace Go.Proofs.Ythnelonbpbhhbaa
open Go.RowKit
set_option linter.unusedVariables false

set_option maxHeartbeats 1000000 in
theorem heldRegionS_any (a : Option Addr) (n cap : Nat) (k : Nat) (w : World) (h : RS w a n cap (marksR k n)) (hn : n ≤ 2097152) (hk : k ≤ 4194304) :
    Calls Try.prog 30 #[.slice a n cap, .int .i64 k] w fun e w' => e = .returned (.int .i64 ((k + 6 * n : Nat) : Int)) ∧ w = w' := by
  go_enter Try.func30, Try.ntmps30
  go_wp2
  go_loop [1, 5] (fun x i => ∃ m : Nat, m ≤ n ∧ i = .int .i64 m ∧ x = .int .i64 ((k + 6 * m : Nat) : Int)) (fun _ i => n - (intOf i).toNat)
  case atStart => exact ⟨0, Nat.zero_le _, rfl, rfl⟩
  case round =>
    obtain ⟨m, hm, rfl, rfl⟩ := hrel
    by_cases hlt : m < n
    · have hlt' : (m : Int) < (n : Int) := by omega
      obtain ⟨b, off, rfl⟩ := h.some (by omega)
      have hc := h.at m hlt
      rw [marksR_getD k n m hlt] at hc
      obtain ⟨K, hK⟩ : ∃ K : Int, K = ((k + 6 * m : Nat) : Int) := ⟨_, rfl⟩
      have hK0 : 0 ≤ K := by omega
      have hK1 : K ≤ 33554432 := by omega
      have HK := hide (show K + 1 + 1 + 1 + 1 + 1 + 1 = ((k + 6 * (m + 1) : Nat) : Int) by omega)
      rw [← hK] at hc ⊢
      obtain ⟨q1, q2, q3, q4, q5, q6⟩ := hc
      simp only [mk6] at q1 q2 q3 q4 q5 q6
      have e1 : (K != K) = false := by simp
      have e2 : (K + 1 != K + 1) = false := by simp
      have e3 : (K + 1 + 1 != K + 1 + 1) = false := by simp
      clear hK
      go_wp2
      go_round
      case rel => exact ⟨m + 1, by omega, by go_num, by rw [HK.out]⟩
      case measure => simp [intOf]; omega
    · have e : Hid (m = n) := by show m = n; omega
      go_wp2
      go_ret
      exact ⟨ret_int (by rw [e.out]), rfl⟩
end Go.Proofs.Ythnelonbpbhhbaa
