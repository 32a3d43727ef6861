import Derived.Test.YtngdgogjlpjjpacK03
import Derived.Test.YtngdgogjlpjjpacK15
import Derived.Test.YtngdgogjlpjjpacK17
namespace Go.Proofs.Ytngdgogjlpjjpac
open Go.RowKit
set_option linter.unusedVariables false
set_option linter.unusedSimpArgs false
set_option maxRecDepth 100000

/-- ALL ARE WORDS. -/
def wds (zs : List Int) : Bool := zs.all fun z => decide (0 ≤ z ∧ z ≤ 4294967295)
theorem wds_bad (zs : List Int) (k : Nat) (hk : k < zs.length) (h : ¬ (0 ≤ zs.getD k 0 ∧ zs.getD k 0 ≤ 4294967295)) : wds zs = false := by
  unfold wds
  rw [List.all_eq_false]
  refine ⟨zs[k], List.getElem_mem _, ?_⟩
  have : zs.getD k 0 = zs[k] := by simp [List.getD_eq_getElem?_getD, hk]
  rw [this] at h
  simpa using h
theorem wds_good (zs : List Int) (h : ∀ j, j < zs.length → 0 ≤ zs.getD j 0 ∧ zs.getD j 0 ≤ 4294967295) : wds zs = true := by
  unfold wds
  rw [List.all_eq_true]
  intro z hz
  obtain ⟨i, hi, rfl⟩ := List.getElem_of_mem hz
  have := h i hi
  rw [show zs.getD i 0 = zs[i] by simp [List.getD_eq_getElem?_getD, hi]] at this
  simpa using this

set_option maxHeartbeats 1000000 in
theorem l4Words_any (a : Option Addr) (n cap : Nat) (zs : List Int) (w : World) (h : IS w a n cap zs) :
    Calls Try.prog 115 #[.slice a n cap] w fun e w' => e = .returned (.bool (wds zs)) ∧ w = w' := by
  have hl := h.1
  have hmx := h.2.1
  unfold maxLen at hmx
  go_enter Try.func115, Try.ntmps115
  go_wp2_with fail
  go_loop [3] (fun i => ∃ k : Nat, k ≤ n ∧ i = .int .i64 k ∧ Hid (∀ j, j < k → 0 ≤ zs.getD j 0 ∧ zs.getD j 0 ≤ 4294967295)) (fun i => n - (intOf i).toNat)
  case atStart => exact ⟨0, Nat.zero_le _, rfl, hide (fun j hj => by omega)⟩
  case round =>
    obtain ⟨k, hk, rfl, HJ⟩ := hrel
    by_cases hlt : k < n
    · have hlt' : (k : Int) < (n : Int) := by omega
      obtain ⟨b, off, rfl⟩ := h.addr (by omega)
      have hck := h.at k hlt
      have HZ := hide (wds_bad zs k (by omega))
      have HG := hide (show 0 ≤ zs.getD k 0 ∧ zs.getD k 0 ≤ 4294967295 → ∀ j, j < k + 1 → 0 ≤ zs.getD j 0 ∧ zs.getD j 0 ≤ 4294967295 from fun h j hj => by
        by_cases e : j = k
        · subst e; exact h
        · exact HJ.out j (by omega))
      generalize zs.getD k 0 = z at *
      by_cases c1 : z < 0
      · go_wp2
        go_ret
        exact ⟨ret_bool (HZ.out (by omega)).symm, rfl⟩
      · by_cases c2 : 4294967295 < z
        · go_wp2
          go_ret
          exact ⟨ret_bool (HZ.out (by omega)).symm, rfl⟩
        · go_wp2
          go_round
          case rel => exact ⟨k + 1, by omega, by go_num, hide (HG.out (by omega))⟩
          case measure => simp [intOf]; omega
    · have HE := hide (wds_good zs (fun j hj => HJ.out j (by omega)))
      go_wp2
      go_ret
      exact ⟨ret_bool HE.out.symm, rfl⟩

set_option maxHeartbeats 1000000 in
theorem areWords_any (a : Option Addr) (n cap : Nat) (zs : List Int) (w : World) (h : IS w a n cap zs) :
    Calls Try.prog 118 #[.slice a n cap] w fun e w' => e = .returned (.bool (wds zs)) ∧ w = w' := by
  have hl := h.1
  have hmx := h.2.1
  unfold maxLen at hmx
  have HIW := hide (fun v w => isWord_any v w)
  go_enter Try.func118, Try.ntmps118
  go_wp2_with fail
  go_loop [7] (fun i => ∃ k : Nat, k ≤ n ∧ i = .int .i64 k ∧ Hid (∀ j, j < k → 0 ≤ zs.getD j 0 ∧ zs.getD j 0 ≤ 4294967295)) (fun i => n - (intOf i).toNat)
  case atStart => exact ⟨0, Nat.zero_le _, rfl, hide (fun j hj => by omega)⟩
  case round =>
    obtain ⟨k, hk, rfl, HJ⟩ := hrel
    by_cases hlt : k < n
    · have hlt' : (k : Int) < (n : Int) := by omega
      obtain ⟨b, off, rfl⟩ := h.addr (by omega)
      have hck := h.at k hlt
      have HZ := hide (wds_bad zs k (by omega))
      have HG := hide (show 0 ≤ zs.getD k 0 ∧ zs.getD k 0 ≤ 4294967295 → ∀ j, j < k + 1 → 0 ≤ zs.getD j 0 ∧ zs.getD j 0 ≤ 4294967295 from fun h j hj => by
        by_cases e : j = k
        · subst e; exact h
        · exact HJ.out j (by omega))
      generalize zs.getD k 0 = z at *
      have HW := hide (HIW.out z)
      by_cases c1 : 0 ≤ z ∧ z ≤ 4294967295
      · rw [decide_eq_true c1] at HW
        go_wp2_with (go_at_call 139; refine (HW.out _).mono ?_; rintro e w1 ⟨rfl, rfl⟩)
        go_round
        case rel => exact ⟨k + 1, by omega, by go_num, hide (HG.out c1)⟩
        case measure => simp [intOf]; omega
      · rw [decide_eq_false c1] at HW
        go_wp2_with (go_at_call 139; refine (HW.out _).mono ?_; rintro e w1 ⟨rfl, rfl⟩)
        go_ret
        exact ⟨ret_bool (HZ.out c1).symm, rfl⟩
    · have HE := hide (wds_good zs (fun j hj => HJ.out j (by omega)))
      go_wp2
      go_ret
      exact ⟨ret_bool HE.out.symm, rfl⟩
end Go.Proofs.Ytngdgogjlpjjpac
