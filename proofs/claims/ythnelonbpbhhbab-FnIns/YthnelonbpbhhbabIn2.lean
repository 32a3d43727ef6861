import Derived.Test.YthnelonbpbhhbabIn1z
import Derived.Test.YthnelonbpbhhbabDe4
namespace Go.Proofs.Ythnelonbpbhhbab
open Go.RowKit
set_option linter.unusedVariables false

theorem us_mod (u : Int) (h : 0 ≤ u) : (0 ≤ mD u ∧ mD u ≤ 7) ∧ (0 ≤ mA u ∧ mA u ≤ 7) ∧ (0 ≤ mI u ∧ mI u ≤ 65535) := by
  unfold mD mA mI
  refine ⟨?_, ?_, ?_⟩ <;> split <;> omega

/-- Decode of Encode -/
theorem dec_enc (op d a i : Int) (h : okI op d a i = true) : dOk (enc op d a i) = true ∧ enc op d a i / 67108864 = op ∧ enc op d a i / 8388608 % 8 = d ∧ enc op d a i / 1048576 % 8 = a ∧ enc op d a i % 65536 = i := by
  obtain ⟨h1, h2, h3, h4, h5, h6, h7, h8⟩ := okI_bounds h
  have e1 : enc op d a i / 67108864 = op := by unfold enc; omega
  have e2 : enc op d a i / 8388608 % 8 = d := by unfold enc; omega
  have e3 : enc op d a i / 1048576 % 8 = a := by unfold enc; omega
  have e4 : enc op d a i % 65536 = i := by unfold enc; omega
  refine ⟨?_, e1, e2, e3, e4⟩
  unfold dOk
  rw [e1, e2, e3, e4, h, Bool.and_true]
  unfold dForm enc
  simp
  omega
/-- Encode of Decode -/
theorem enc_dec (x : Int) (h : dOk x = true) : okI (x / 67108864) (x / 8388608 % 8) (x / 1048576 % 8) (x % 65536) = true ∧ enc (x / 67108864) (x / 8388608 % 8) (x / 1048576 % 8) (x % 65536) = x := by
  unfold dOk at h
  simp at h
  obtain ⟨hF, hk⟩ := h
  refine ⟨hk, ?_⟩
  unfold dForm at hF
  simp at hF
  unfold enc
  omega
end Go.Proofs.Ythnelonbpbhhbab
