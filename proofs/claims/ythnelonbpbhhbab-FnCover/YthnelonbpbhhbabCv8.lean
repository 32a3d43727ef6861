import Derived.Test.YthnelonbpbhhbabCv7
namespace Go.Proofs.Ythnelonbpbhhbab
open Go.RowKit
set_option linter.unusedVariables false

set_option maxHeartbeats 1000000 in
theorem iCover_bad (f s : Int) (w : World) (hs0 : -9223372036854775808 ≤ f ∧ f ≤ 9223372036854775807) (h : cvOk f s = false) :
    Calls Try.prog 11 #[.int .i64 f, .int .i64 s] w (CvPost w false []) := by
  have G1 := hide (isGrained_any f)
  have G2 := hide (isGrained_any s)
  have HN := hide (or_nil w w.heap.size)
  unfold cvOk at h
  cases e1 : grn f
  · rw [e1] at G1
    clear h e1
    go_enter Try.func11, Try.ntmps11
    go_wp2_with fail
    refine (G1.out w).mono ?_
    rintro e w1 ⟨rfl, rfl⟩
    go_wp2_with fail
    go_ret2
    exact ⟨none, 0, 0, rfl, HN.out, Below.refl _ _⟩
  · rw [e1] at G1 h
    have hf : 0 ≤ f := by unfold grn at e1; simp at e1; omega
    cases e2 : grn s
    · rw [e2] at G2
      clear h e1 e2
      go_enter Try.func11, Try.ntmps11
      go_wp2_with fail
      refine (G1.out w).mono ?_
      rintro e w1 ⟨rfl, rfl⟩
      go_wp2_with fail
      refine (G2.out w).mono ?_
      rintro e w1 ⟨rfl, rfl⟩
      go_wp2_with fail
      go_ret2
      exact ⟨none, 0, 0, rfl, HN.out, Below.refl _ _⟩
    · rw [e2] at G2 h
      have hlt : 262144 - f < s := by simp at h; omega
      clear h e1 e2
      go_enter Try.func11, Try.ntmps11
      go_wp2_with fail
      refine (G1.out w).mono ?_
      rintro e w1 ⟨rfl, rfl⟩
      go_wp2_with fail
      refine (G2.out w).mono ?_
      rintro e w1 ⟨rfl, rfl⟩
      go_wp2_with fail
      go_ret2
      exact ⟨none, 0, 0, rfl, HN.out, Below.refl _ _⟩

/-- THE COVER AT EVERY ARGUMENT. -/
def cvL (f s : Int) : List Rg := if cvOk f s then cvAll f s else []
theorem iCover_any (f s : Int) (w : World) (hs0 : -9223372036854775808 ≤ f ∧ f ≤ 9223372036854775807) :
    Calls Try.prog 11 #[.int .i64 f, .int .i64 s] w (CvPost w (cvOk f s) (cvL f s)) := by
  unfold cvL
  cases e : cvOk f s
  · exact iCover_bad f s w hs0 e
  · unfold cvOk grn at e
    simp at e
    exact iCover_good f s w (by omega) (by omega) (by omega) (by omega) (by omega)

/-- what l2Best has counted behind i parts -/
def ci (i0 j i : Nat) : Nat := min (i - i0) j
theorem ci_in' : ∀ (i0 : Fin 8) (j : Fin 9) (i : Fin 8), (i0.val ≤ i.val ∧ i.val < i0.val + j.val) → (ci i0 j (i.val + 1) = ci i0 j i + 1 ∧ 2 ^ i.val - 1 - runq i0 (ci i0 j i) = 2 ^ (i.val + 1) - 1 - runq i0 (ci i0 j (i.val + 1))) := by decide +kernel
theorem ci_out' : ∀ (i0 : Fin 8) (j : Fin 9) (i : Fin 8), ((i.val < i0.val ∨ i0.val + j.val ≤ i.val) ∧ i0.val + j.val ≤ 8) → (ci i0 j (i.val + 1) = ci i0 j i ∧ 2 ^ i.val - 1 - runq i0 (ci i0 j i) + 2 ^ i.val = 2 ^ (i.val + 1) - 1 - runq i0 (ci i0 j (i.val + 1))) := by decide +kernel
theorem ci_in (i0 : Nat) (h0 : i0 < 8) (j : Nat) (hj : j < 9) (i : Nat) (hi : i < 8) (h : i0 ≤ i ∧ i < i0 + j) : ci i0 j (i + 1) = ci i0 j i + 1 ∧ 2 ^ i - 1 - runq i0 (ci i0 j i) = 2 ^ (i + 1) - 1 - runq i0 (ci i0 j (i + 1)) := ci_in' ⟨i0, h0⟩ ⟨j, hj⟩ ⟨i, hi⟩ h
theorem ci_out (i0 : Nat) (h0 : i0 < 8) (j : Nat) (hj : j < 9) (i : Nat) (hi : i < 8) (h : (i < i0 ∨ i0 + j ≤ i) ∧ i0 + j ≤ 8) : ci i0 j (i + 1) = ci i0 j i ∧ 2 ^ i - 1 - runq i0 (ci i0 j i) + 2 ^ i = 2 ^ (i + 1) - 1 - runq i0 (ci i0 j (i + 1)) := ci_out' ⟨i0, h0⟩ ⟨j, hj⟩ ⟨i, hi⟩ h
theorem ci_end : ∀ i0, i0 < 8 → ∀ j, j < 9 → i0 + j ≤ 8 → ci i0 j 8 = j := by decide +kernel

def jj (a en l : Int) : Nat := if a % (2:Int)^(l - 3).toNat = 0 then jOf a en l else 0
theorem qOf_wide (a en l : Int) (h : 8 ≤ l) : qOf a en l = runq (i0Of a l) (jj a en l) := by
  unfold qOf jj
  rw [if_neg (by omega)]
  split
  · rfl
  · rw [runq_zero]
theorem jj_le (a en l : Int) (hi : i0Of a l < 8) : i0Of a l + jj a en l ≤ 8 := by
  unfold jj
  split
  · unfold jOf; omega
  · omega
/-- is part i taken? -/
theorem part_in (a en l P N : Int) (hl : 5 ≤ l) (hl2 : l ≤ 14) (hP : (2:Int)^(l - 3).toNat = P) (hN : (2:Int)^l.toNat = N) (ha : 0 ≤ a) (hae : a < en) (hen : en ≤ 262144) (i : Nat) (hi : i < 8) :
    (a ≤ baseOf a l + (i : Int) * P ∧ baseOf a l + (i : Int) * P + P ≤ en ∧ a % P = 0) ↔ (i0Of a l ≤ i ∧ i < i0Of a l + jj a en l) := by
  obtain ⟨g1, g2, g3, g4, g5, g6, g7⟩ := parts a l P N hl hl2 hP hN ha (by omega)
  unfold jj
  rw [hP]
  by_cases hm : a % P = 0
  · rw [if_pos hm]
    have hb : baseOf a l = a - a % N := by unfold baseOf; rw [hN]
    have g6' := g6 hm
    have hd0 : 0 ≤ (en - a) / P := Int.ediv_nonneg (by omega) (by omega)
    have e1 : (a ≤ baseOf a l + (i : Int) * P) ↔ i0Of a l ≤ i := by
      rw [hb, g6']
      constructor
      · intro h
        have : (i0Of a l : Int) * P ≤ (i : Int) * P := by omega
        have := Int.le_of_mul_le_mul_right this (by omega)
        omega
      · intro h
        have : (i0Of a l : Int) * P ≤ (i : Int) * P := Int.mul_le_mul_of_nonneg_right (by omega) (by omega)
        omega
    have e2 : i0Of a l ≤ i → ((baseOf a l + (i : Int) * P + P ≤ en) ↔ ((i - i0Of a l : Nat) : Int) < (en - a) / P) := by
      intro h
      rw [hb, g6']
      have e3 : ((i - i0Of a l : Nat) : Int) = (i : Int) - (i0Of a l : Int) := by omega
      have e4 : (((i : Int) - (i0Of a l : Int)) + 1) * P = (i : Int) * P - (i0Of a l : Int) * P + P := by rw [Int.add_mul, Int.sub_mul]; omega
      rw [e3]
      constructor
      · intro h
        have := Int.le_ediv_of_mul_le (c := P) (a := (i : Int) - (i0Of a l : Int) + 1) (b := en - a) (by omega) (by omega)
        omega
      · intro h
        have : (i : Int) - (i0Of a l : Int) + 1 ≤ (en - a) / P := by omega
        have := Int.mul_le_of_le_ediv (by omega) this
        omega
    have e5 : jOf a en l = min (8 - i0Of a l) ((en - a) / P).toNat := by unfold jOf; rw [hP]
    rw [e5, e1]
    constructor
    · rintro ⟨h1, h2, _⟩
      have := (e2 h1).1 h2
      omega
    · rintro ⟨h1, h2⟩
      exact ⟨h1, (e2 h1).2 (by omega), hm⟩
  · rw [if_neg hm]
    constructor
    · rintro ⟨_, _, h⟩
      exact absurd h hm
    · intro h
      omega
theorem div_mul_base (a N : Int) (h0 : 0 ≤ a) (hN : 0 < N) : a / N * N = a - a % N := by
  have := Int.mul_ediv_add_emod a N
  rw [Int.mul_comm]
  omega
end Go.Proofs.Ythnelonbpbhhbab
