import Derived.Test.YtngdgogjlpjjpadGreatK00
namespace Go.Proofs.YtngdgogjlpjjpadGreat
open Go.RowKit
set_option linter.unusedVariables false

set_option maxHeartbeats 400000 in
theorem l2Power_any (n : Int) (h0 : 0 ≤ n) (h : n ≤ 20) (w : World) :
    Calls Tryz.prog 167 #[.int .i64 n] w fun e w' => e = .returned (.int .i64 ((2:Int)^n.toNat)) ∧ w' = w := by
  go_enter Tryz.func167, Tryz.ntmps167
  go_wp2
  go_loop [3, 4] (fun v i => ∃ k : Nat, (k : Int) ≤ n ∧ i = .int .i64 k ∧ v = .int .i64 ((2:Int)^k)) (fun _ i => n.toNat - (intOf i).toNat)
  case atStart => exact ⟨0, by omega, rfl, rfl⟩
  case round =>
    obtain ⟨k, hk, rfl, rfl⟩ := hrel
    by_cases hlt : (k : Int) < n
    · have hp := pow_lt k (by omega)
      have hp0 := pow_pos k
      have hs : Hid ((2:Int)^(k+1) = (2:Int)^k * 2) := Int.pow_succ 2 k
      generalize (2:Int)^k = P at *
      go_wp2
      go_round
      case rel => exact ⟨k + 1, by omega, by go_num, by rw [hs.out]⟩
      case measure => simp [intOf]; omega
    · have e : Hid (n.toNat = k) := by show n.toNat = k; omega
      go_wp2
      go_ret
      exact ⟨ret_int (by rw [e.out]), rfl⟩

end Go.Proofs.YtngdgogjlpjjpadGreat
