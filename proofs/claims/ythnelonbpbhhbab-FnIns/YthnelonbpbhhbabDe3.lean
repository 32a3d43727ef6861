import Derived.Test.YthnelonbpbhhbabDe2
namespace Go.Proofs.Ythnelonbpbhhbab
open Go.RowKit
set_option linter.unusedVariables false

theorem us_in (op : Int) (h : 1 ≤ op) (h2 : op ≤ 25) : 0 ≤ us op := by
  rcases op_cases op with h | h | rfl | rfl | rfl | rfl | rfl | rfl | rfl | rfl | rfl | rfl | rfl | rfl | rfl | rfl | rfl | rfl | rfl | rfl | rfl | rfl | rfl | rfl | rfl | rfl | rfl
  · omega
  · omega
  all_goals decide

set_option maxHeartbeats 1000000 in
theorem insOk_any (op d a i : Int) (w : World) :
    Calls Try.prog 60 #[.agg #[.int .i64 op, .int .i64 d, .int .i64 a, .int .i64 i]] w fun e w' => e = .returned (.bool (okI op d a i)) ∧ Below w.heap.size w w' := by
  have kb := Blk.new w #[.int .i64 op, .int .i64 d, .int .i64 a, .int .i64 i] 43
  have hB0 : Below w.heap.size w (w.alloc (.cells #[.int .i64 op, .int .i64 d, .int .i64 a, .int .i64 i] 43)) := (Below.refl _ _).alloc (Nat.le_refl _) _
  by_cases h : op ≤ 0 ∨ 26 ≤ op
  · have HF : Hid (okI op d a i = false) := by show _ = _; unfold okI okU; rw [us_out op h]; simp
    have HG := hide (fun w => greatest_out op w h)
    clear h
    go_enter Try.func60, Try.ntmps60
    go_wp2_with fail
    refine (HG.out _).mono ?_
    rintro e w1 ⟨rfl, hb1⟩
    have HB : Below w.heap.size w w1 := hB0.trans (hb1.mono (by simp))
    have hz : w.heap.size < w1.heap.size := by have := hb1.size; simp at this; omega
    go_wp2
    go_ret
    exact ⟨ret_bool HF.out.symm, HB.alloc (by omega) _⟩
  · have HG := hide (fun w => greatest_in op w (by omega) (by omega))
    have HU := hide (us_in op (by omega) (by omega))
    unfold okI
    generalize us op = u at *
    unfold okU
    generalize mD u = x at *
    generalize mA u = y at *
    generalize mI u = z at *
    clear h
    have H1 := hide (isUpTo_any d x)
    have H2 := hide (isUpTo_any a y)
    have H3 := hide (isUpTo_any i z)
    have HR : Hid (decide (0 ≤ u ∧ 0 ≤ d ∧ d ≤ x ∧ 0 ≤ a ∧ a ≤ y ∧ 0 ≤ i ∧ i ≤ z) = (decide (0 ≤ d ∧ d ≤ x) && decide (0 ≤ a ∧ a ≤ y) && decide (0 ≤ i ∧ i ≤ z))) := by
      show _ = _
      rw [Bool.eq_iff_iff]
      have := HU.out
      simp
      omega
    rw [HR.out]
    clear HR
    generalize decide (0 ≤ d ∧ d ≤ x) = b1 at *
    generalize decide (0 ≤ a ∧ a ≤ y) = b2 at *
    generalize decide (0 ≤ i ∧ i ≤ z) = b3 at *
    cases b1
    · go_enter Try.func60, Try.ntmps60
      go_wp2_with fail
      refine (HG.out _).mono ?_
      rintro e w1 ⟨rfl, hb1⟩
      have kb1 := (kb.below hb1).four'
      obtain ⟨p1, p2, p3, p4, p5⟩ := kb1
      have HB : Below w.heap.size w w1 := hB0.trans (hb1.mono (by simp))
      have hz : w.heap.size < w1.heap.size := by have := hb1.size; simp at this; omega
      go_wp2_with fail
      refine (H1.out _).mono ?_
      rintro e w1 ⟨rfl, rfl⟩
      go_wp2
      go_ret
      exact ⟨rfl, HB.alloc (by omega) _⟩
    · cases b2
      · go_enter Try.func60, Try.ntmps60
        go_wp2_with fail
        refine (HG.out _).mono ?_
        rintro e w1 ⟨rfl, hb1⟩
        have kb1 := (kb.below hb1).four'
        obtain ⟨p1, p2, p3, p4, p5⟩ := kb1
        have HB : Below w.heap.size w w1 := hB0.trans (hb1.mono (by simp))
        have hz : w.heap.size < w1.heap.size := by have := hb1.size; simp at this; omega
        go_wp2_with fail
        refine (H1.out _).mono ?_
        rintro e w1 ⟨rfl, rfl⟩
        go_wp2_with fail
        refine (H2.out _).mono ?_
        rintro e w1 ⟨rfl, rfl⟩
        go_wp2
        go_ret
        exact ⟨rfl, HB.alloc (by omega) _⟩
      · go_enter Try.func60, Try.ntmps60
        go_wp2_with fail
        refine (HG.out _).mono ?_
        rintro e w1 ⟨rfl, hb1⟩
        have kb1 := (kb.below hb1).four'
        obtain ⟨p1, p2, p3, p4, p5⟩ := kb1
        have HB : Below w.heap.size w w1 := hB0.trans (hb1.mono (by simp))
        have hz : w.heap.size < w1.heap.size := by have := hb1.size; simp at this; omega
        go_wp2_with fail
        refine (H1.out _).mono ?_
        rintro e w1 ⟨rfl, rfl⟩
        go_wp2_with fail
        refine (H2.out _).mono ?_
        rintro e w1 ⟨rfl, rfl⟩
        go_wp2_with fail
        refine (H3.out _).mono ?_
        rintro e w1 ⟨rfl, rfl⟩
        go_wp2
        go_ret
        exact ⟨rfl, HB.alloc (by omega) _⟩
end Go.Proofs.Ythnelonbpbhhbab
