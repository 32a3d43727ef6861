import Derived.Test.YtngdgogjlpjjpaeGreatJ04
namespace Go.Proofs.YtngdgogjlpjjpaeGreat
open Go.RowKit
set_option linter.unusedVariables false

theorem l2Best_any (a s l : Int) (w : World) (hl : 5 ≤ l) (hl2 : l ≤ 14) (ha : 0 ≤ a) (hs : 0 < s) (has : a + s ≤ 262144) :
    Calls Tryz.prog 247 #[.int .i64 l, .int .i64 a, .int .i64 s] w (BePost w (baseOf a l) l (cnt l (qOf a (a + s) l)) (qOf a (a + s) l)) := by
  by_cases h : l < 8
  · exact l2Best_narrow a s l w hl h ha hs has
  · exact l2Best_wide a s l w (by omega) hl2 ha hs has

set_option maxHeartbeats 1000000 in
theorem sCover_bad (f s : Int) (w : World) (h1 : -9223372036854775808 ≤ f ∧ f ≤ 9223372036854775807) (h2 : -9223372036854775808 ≤ s ∧ s ≤ 9223372036854775807) (h : cvOk f s = false) :
    Calls Tryz.prog 202 #[.int .i64 f, .int .i64 s] w (CvPost w false []) := by
  have HO := hide (or_empty w w.heap.size (Nat.le_refl _))
  have HB := hide ((Below.refl w.heap.size w).alloc (Nat.le_refl _) (.cells #[] 158))
  have HE := hide (show ∀ e W, W = w.alloc (.cells #[] 158) → e = Ending.returned (.tuple #[.slice (some ⟨w.heap.size, 0, none⟩) 0 0, .bool false]) → CvPost w false [] e W from by
    rintro e W rfl rfl
    exact ⟨_, 0, 0, rfl, HO.out, HB.out⟩)
  have hor : f < 0 ∨ (0 ≤ f ∧ s < 0) ∨ (0 ≤ f ∧ 0 ≤ s ∧ 262144 < f) ∨ (0 ≤ f ∧ 0 ≤ s ∧ f ≤ 262144 ∧ 262144 < s) ∨ (0 ≤ f ∧ 0 ≤ s ∧ f ≤ 262144 ∧ s ≤ 262144 ∧ 262144 < f + s) ∨ (0 ≤ f ∧ 0 ≤ s ∧ f ≤ 262144 ∧ s ≤ 262144 ∧ f + s ≤ 262144 ∧ f % 32 ≠ 0) ∨ (0 ≤ f ∧ 0 ≤ s ∧ f ≤ 262144 ∧ s ≤ 262144 ∧ f + s ≤ 262144 ∧ f % 32 = 0 ∧ s % 32 ≠ 0) := by
    unfold cvOk grn at h
    simp at h
    omega
  clear h
  rcases hor with u | ⟨u1, u2⟩ | ⟨u1, u2, u3⟩ | ⟨u1, u2, u3, u4⟩ | ⟨u1, u2, u3, u4, u5⟩ | ⟨u1, u2, u3, u4, u5, u6⟩ | ⟨u1, u2, u3, u4, u5, u6, u7⟩
  case inr.inr.inr.inr.inr.inl =>
    have u6' : (f % 32 != 0) = true := by simpa using u6
    clear u6
    go_enter Tryz.func202, Tryz.ntmps202
    go_wp2_with fail
    go_ret2
    exact HE.out _ _ rfl rfl
  case inr.inr.inr.inr.inr.inr =>
    have u6' : (f % 32 != 0) = false := by simpa using u6
    have u7' : (s % 32 != 0) = true := by simpa using u7
    clear u6 u7
    go_enter Tryz.func202, Tryz.ntmps202
    go_wp2_with fail
    go_ret2
    exact HE.out _ _ rfl rfl
  all_goals
    go_enter Tryz.func202, Tryz.ntmps202
    go_wp2_with fail
    go_ret2
    exact HE.out _ _ rfl rfl
end Go.Proofs.YtngdgogjlpjjpaeGreat
