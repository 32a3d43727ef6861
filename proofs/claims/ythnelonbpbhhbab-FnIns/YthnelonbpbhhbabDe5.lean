import Derived.Test.YthnelonbpbhhbabDe3
namespace Go.Proofs.Ythnelonbpbhhbab
open Go.RowKit
set_option linter.unusedVariables false

theorem okI_bounds {op d a i : Int} (h : okI op d a i = true) : 1 ≤ op ∧ op ≤ 25 ∧ 0 ≤ d ∧ d ≤ 7 ∧ 0 ≤ a ∧ a ≤ 7 ∧ 0 ≤ i ∧ i ≤ 65535 := by
  unfold okI okU at h
  simp at h
  obtain ⟨h0, h1, h2, h3, h4, h5, h6⟩ := h
  have hx : mD (us op) ≤ 7 := by unfold mD; split <;> omega
  have hy : mA (us op) ≤ 7 := by unfold mA; split <;> omega
  have hz : mI (us op) ≤ 65535 := by unfold mI; split <;> omega
  by_cases ho : op ≤ 0 ∨ 26 ≤ op
  · rw [us_out op ho] at h0
    omega
  · omega
/-- the word of an instruction -/
def enc (op d a i : Int) : Int := op * 67108864 + d * 8388608 + a * 1048576 + i
def encV (op d a i : Int) : Int := if okI op d a i then enc op d a i else 0

theorem enc_or (op d a i : Int) (h : okI op d a i = true) : bits .or .i64 (bits .or .i64 (bits .or .i64 (op * 67108864) (d * 8388608)) (a * 1048576)) i = enc op d a i := by
  obtain ⟨h1, h2, h3, h4, h5, h6, h7, h8⟩ := okI_bounds h
  rw [join62 26 (op * 67108864) (d * 8388608) (by omega) (by omega) (by omega) (by omega) (by omega) (by omega)]
  rw [join62 23 (op * 67108864 + d * 8388608) (a * 1048576) (by omega) (by omega) (by omega) (by omega) (by omega) (by omega)]
  rw [join62 20 (op * 67108864 + d * 8388608 + a * 1048576) i (by omega) (by omega) (by omega) (by omega) (by omega) (by omega)]
  rfl

set_option maxHeartbeats 1000000 in
theorem sEncode_any (op d a i : Int) (w : World) :
    Calls Try.prog 21 #[.agg #[.int .i64 op, .int .i64 d, .int .i64 a, .int .i64 i]] w fun e w' => e = .returned (.tuple #[.int .i64 (encV op d a i), .bool (okI op d a i)]) ∧ Below w.heap.size w w' := by
  have kb := Blk.new w #[.int .i64 op, .int .i64 d, .int .i64 a, .int .i64 i] 43
  have hB0 : Below w.heap.size w (w.alloc (.cells #[.int .i64 op, .int .i64 d, .int .i64 a, .int .i64 i] 43)) := (Below.refl _ _).alloc (Nat.le_refl _) _
  have HI := hide (l3InsOk_any op d a i)
  unfold encV
  cases hk : okI op d a i
  · rw [hk] at HI
    clear hk
    rw [if_neg (by simp)]
    go_enter Try.func21, Try.ntmps21
    go_wp2_with fail
    refine (HI.out _).mono ?_
    rintro e w1 ⟨rfl, hb1⟩
    go_wp2
    go_ret2
    exact ⟨rfl, hB0.trans (hb1.mono (by simp))⟩
  · obtain ⟨h1, h2, h3, h4, h5, h6, h7, h8⟩ := okI_bounds hk
    rw [hk] at HI
    clear hk
    rw [if_pos rfl]
    unfold enc
    go_enter Try.func21, Try.ntmps21
    go_wp2_with fail
    refine (HI.out _).mono ?_
    rintro e w1 ⟨rfl, hb1⟩
    obtain ⟨p1, p2, p3, p4, p5⟩ := (kb.below hb1).four'
    go_wp2
    go_ret2
    exact ⟨rfl, hB0.trans (hb1.mono (by simp))⟩

set_option maxHeartbeats 1000000 in
theorem iEncode_any (op d a i : Int) (w : World) :
    Calls Try.prog 22 #[.agg #[.int .i64 op, .int .i64 d, .int .i64 a, .int .i64 i]] w fun e w' => e = .returned (.tuple #[.int .i64 (encV op d a i), .bool (okI op d a i)]) ∧ Below w.heap.size w w' := by
  have kb := Blk.new w #[.int .i64 op, .int .i64 d, .int .i64 a, .int .i64 i] 43
  have hB0 : Below w.heap.size w (w.alloc (.cells #[.int .i64 op, .int .i64 d, .int .i64 a, .int .i64 i] 43)) := (Below.refl _ _).alloc (Nat.le_refl _) _
  have HI := hide (insOk_any op d a i)
  unfold encV
  cases hk : okI op d a i
  · rw [hk] at HI
    clear hk
    rw [if_neg (by simp)]
    go_enter Try.func22, Try.ntmps22
    go_wp2_with fail
    refine (HI.out _).mono ?_
    rintro e w1 ⟨rfl, hb1⟩
    go_wp2
    go_ret2
    exact ⟨rfl, hB0.trans (hb1.mono (by simp))⟩
  · obtain ⟨h1, h2, h3, h4, h5, h6, h7, h8⟩ := okI_bounds hk
    have HE := hide (enc_or op d a i hk)
    rw [hk] at HI
    clear hk
    rw [if_pos rfl]
    go_enter Try.func22, Try.ntmps22
    go_wp2_with fail
    refine (HI.out _).mono ?_
    rintro e w1 ⟨rfl, hb1⟩
    obtain ⟨p1, p2, p3, p4, p5⟩ := (kb.below hb1).four'
    go_wp2
    rw [HE.out]
    go_ret2
    exact ⟨rfl, hB0.trans (hb1.mono (by simp))⟩

end Go.Proofs.Ythnelonbpbhhbab
