import Derived.Test.YtngdgogjlpjjpaeGreatP14
import Derived.Test.YtngdgogjlpjjpaeGreatP15
namespace Go.Proofs.YtngdgogjlpjjpaeGreat
open Go.RowKit Classical
set_option linter.unusedVariables false
set_option linter.unusedSimpArgs false
set_option maxRecDepth 100000
set_option maxHeartbeats 2000000 in
theorem sliceEqT_any (a a' : Option Addr) (n cap n' cap' : Nat) (xs ys : List Tg) (w : World) (h : TgS w a n cap xs) (h' : TgS w a' n' cap' ys) :
    Calls Tryz.prog 208 #[.slice a n cap, .slice a' n' cap'] w fun e w' => e = .returned (.bool (decide (xs = ys))) ∧ Below w.heap.size w w' := by
  have hl := h.1
  have hl' := h'.1
  have hmx := h.2.1
  have hmx' := h'.2.1
  unfold maxLen at hmx hmx'
  by_cases hn : n = n'
  · subst hn
    have hne : ((n : Int) != (n : Int)) = false := by simp
    go_enter Tryz.func208, Tryz.ntmps208
    go_wp2
    go_loopw [13] (fun i wr => ∃ k : Nat, k ≤ n ∧ i = .int .i64 k ∧ xs.take k = ys.take k ∧ Below w.heap.size w wr) (fun i _ => n - (intOf i).toNat)
    case atStart => exact ⟨0, Nat.zero_le _, rfl, by simp, Below.refl _ _⟩
    case round =>
      obtain ⟨k, hk, rfl, hT, hB⟩ := hrel
      by_cases hlt : k < n
      · have hlt' : (k : Int) < (n : Int) := by omega
        obtain ⟨b, off, rfl, q0, q1, q2⟩ := (h.below hB).at k hlt
        obtain ⟨b', off', rfl, p0, p1, p2⟩ := (h'.below hB).at k hlt
        by_cases he : xs.getD k zT = ys.getD k zT
        · have HS : Hid (xs.take (k + 1) = ys.take (k + 1)) := take_succ_eq zT xs ys k hT (by omega) (by omega) he
          rw [he] at q0 q1 q2
          clear hT he
          generalize ys.getD k zT = z at *
          obtain ⟨z0, z1, z2⟩ := z
          dsimp only at q0 q1 q2 p0 p1 p2
          go_wp2
          go_quiet (fail)
          go_wp2
          go_roundw
          case rel => exact ⟨k + 1, by omega, by go_num, HS.out, below_drewN hB _⟩
          case measure => simp [intOf]; omega
        · have hf : Hid (decide (xs = ys) = false) := by
            show _ = _
            simp
            intro e
            exact he (by rw [e])
          clear hT
          generalize ys.getD k zT = z at *
          generalize xs.getD k zT = z' at *
          obtain ⟨z0, z1, z2⟩ := z
          obtain ⟨x0, x1, x2⟩ := z'
          dsimp only at q0 q1 q2 p0 p1 p2
          have hne3 : ¬ (x0 = z0 ∧ x1 = z1 ∧ x2 = z2) := fun e => he (by rw [e.1, e.2.1, e.2.2])
          clear he
          by_cases f0 : x0 = z0
          · by_cases f1 : x1 = z1
            · have f2 : ¬ x2 = z2 := fun e => hne3 ⟨f0, f1, e⟩
              subst f0 f1
              have f2' : (x2 == z2) = false := by simpa using f2
              go_wp2
              go_quiet (fail)
              go_wp2
              go_ret
              exact ⟨ret_bool hf.out.symm, below_drewN hB _⟩
            · subst f0
              have f1' : (x1 == z1) = false := by simpa using f1
              go_wp2
              go_quiet (fail)
              go_wp2
              go_ret
              exact ⟨ret_bool hf.out.symm, below_drewN hB _⟩
          · have f0' : (x0 == z0) = false := by simpa using f0
            go_wp2
            go_quiet (fail)
            go_wp2
            go_ret
            exact ⟨ret_bool hf.out.symm, below_drewN hB _⟩
      · have hf : Hid (decide (xs = ys) = true) := by
          show _ = _
          simp
          rw [List.take_of_length_le (by omega), List.take_of_length_le (by omega)] at hT
          exact hT
        clear hT
        go_wp2
        go_ret
        exact ⟨ret_bool hf.out.symm, hB⟩
  · have hf : Hid (decide (xs = ys) = false) := by
      show _ = _
      simp
      intro e
      rw [e] at hl
      omega
    have hne : ((n : Int) != (n' : Int)) = true := by simp; omega
    go_enter Tryz.func208, Tryz.ntmps208
    go_wp2
    go_ret
    exact ⟨ret_bool hf.out.symm, Below.refl _ _⟩
end Go.Proofs.YtngdgogjlpjjpaeGreat
