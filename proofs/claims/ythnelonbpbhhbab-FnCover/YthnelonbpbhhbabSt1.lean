import Derived.Test.YthnelonbpbhhbabCv8
import Derived.Test.YthnelonbpbhhbabAl3
namespace Go.Proofs.Ythnelonbpbhhbab
open Go.RowKit
set_option linter.unusedVariables false

/-- A REGION THAT HAS JUST THE ADDRESSES a .. a + c - 1. -/
structure Cov (g : Rg) (a c : Int) : Prop where
  ok : gok g = true
  bits : g.2.2.2 = (false, false, false)
  pos : 32 ≤ c
  c32 : c % 32 = 0
  a32 : a % 32 = 0
  has : ∀ x, ghas g x = decide (a ≤ x ∧ x < a + c)
def Chain : List Rg → Int → Int → Prop
  | [], a, e => a = e
  | g :: r, a, e => ∃ c, Cov g a c ∧ Chain r (a + c) e

theorem run_bit : ∀ i0, i0 < 8 → ∀ j, j < 9 → i0 + j ≤ 8 → ∀ p, p < 8 → ((255 - runq i0 j) / 2 ^ p % 2 = 0 ↔ (i0 ≤ p ∧ p < i0 + j)) := by decide +kernel

theorem has_cov (a en b l : Int) (q : Nat) (ha : 0 ≤ a) (hae : a < en) (hen : en ≤ 262144) (ha32 : a % 32 = 0) (hl : 5 ≤ l) (hl2 : l ≤ 14) (hq : q < 256) (hc : 32 ≤ cnt l q) (hc32 : cnt l q % 32 = 0) (hb : b = baseOf a l) (hqo : q = qOf a en l) :
    Cov (b, l, 255 - (q : Int), false, false, false) a (cnt l q) := by
  obtain ⟨P, hP⟩ : ∃ P, (2:Int)^(l - 3).toNat = P := ⟨_, rfl⟩
  obtain ⟨N, hN⟩ : ∃ N, (2:Int)^l.toNat = N := ⟨_, rfl⟩
  obtain ⟨g1, g2, g3, g4, g5, g6, g7⟩ := parts a l P N hl hl2 hP hN ha (by omega)
  obtain ⟨b0, b1, b2, b3, b4⟩ := base_ok a l N hl hl2 hN ha (by omega)
  have hbo : b = a - a % N := by rw [hb]; unfold baseOf; rw [hN]
  rw [← hbo] at b0 b1 b2
  by_cases h8 : l < 8
  · have hq255 : a % N = 0 ∧ a + N ≤ en ∧ q = 255 := by
      unfold qOf at hqo
      rw [if_pos h8, hN] at hqo
      split at hqo
      · next h => exact ⟨h.1, h.2, hqo⟩
      · subst hqo
        rw [cnt_zero] at hc
        omega
    obtain ⟨h1, h2, rfl⟩ := hq255
    have e2 : cnt l 255 = N := by unfold cnt; rw [hP, show popc 255 = 8 from rfl, g1]; rfl
    have hab : b = a := by omega
    refine ⟨?_, rfl, hc, hc32, ha32, ?_⟩
    · show rok b l (255 - ((255 : Nat) : Int)) = true
      unfold rok
      rw [hN]
      simp
      omega
    · intro x
      show hs b l (255 - ((255 : Nat) : Int)) x = _
      unfold hs
      rw [hN, e2, hab]
      simp
  · have hq' : a % P = 0 ∧ q = runq (i0Of a l) (jOf a en l) := by
      unfold qOf at hqo
      rw [if_neg h8, hP] at hqo
      split at hqo
      · next h => exact ⟨h, hqo⟩
      · subst hqo
        rw [cnt_zero] at hc
        omega
    obtain ⟨hm, hqq⟩ := hq'
    have hj : i0Of a l + jOf a en l ≤ 8 := by unfold jOf; omega
    have e2 : cnt l q = (jOf a en l : Int) * P := by rw [hqq]; exact cnt_run l P hP _ _ g5 hj
    have hai := g6 hm
    refine ⟨?_, rfl, hc, hc32, ha32, ?_⟩
    · show rok b l (255 - (q : Int)) = true
      unfold rok
      rw [hN]
      simp
      omega
    · intro x
      show hs b l (255 - (q : Int)) x = _
      unfold hs
      rw [hN]
      rw [e2]
      generalize i0Of a l = i0 at *
      generalize jOf a en l = j at *
      rw [Bool.eq_iff_iff]
      simp only [decide_eq_true_eq]
      have hN8 : N / 8 = P := by omega
      rw [hN8]
      have hP0 : 0 < P := by omega
      constructor
      · rintro ⟨x1, x2, x3⟩
        have p0 : 0 ≤ (x - b) / P := Int.ediv_nonneg (by omega) (by omega)
        have p8 : (x - b) / P < 8 := Int.ediv_lt_of_lt_mul hP0 (by omega)
        obtain ⟨p, hp⟩ := Int.eq_ofNat_of_zero_le p0
        rw [hp] at x3 p8
        have x3' : (255 - q) / 2 ^ p % 2 = 0 := by
          have e : (255 - (q : Int)) = ((255 - q : Nat) : Int) := by omega
          rw [e] at x3
          have : (((255 - q) / 2 ^ p % 2 : Nat) : Int) = 0 := by
            rw [← x3]
            simp
          omega
        rw [hqq] at x3'
        obtain ⟨y1, y2⟩ := (run_bit i0 g5 j (by omega) hj p (by omega)).1 x3'
        have z1 : (i0 : Int) * P ≤ x - b := Int.le_trans (Int.mul_le_mul_of_nonneg_right (show (i0 : Int) ≤ (x - b) / P by omega) (by omega)) (Int.ediv_mul_le _ (by omega))
        have z2 : x - b < ((i0 : Int) + j) * P := by
          have h1 : (x - b) < ((x - b) / P + 1) * P := Int.lt_ediv_add_one_mul_self _ hP0
          have h2 : ((x - b) / P + 1) * P ≤ ((i0 : Int) + j) * P := Int.mul_le_mul_of_nonneg_right (by omega) (by omega)
          omega
        rw [Int.add_mul] at z2
        omega
      · rintro ⟨x1, x2⟩
        have z1 : (i0 : Int) * P ≤ x - b := by omega
        have z2 : x - b < ((i0 : Int) + j) * P := by rw [Int.add_mul]; omega
        have y1 : (i0 : Int) ≤ (x - b) / P := Int.le_ediv_of_mul_le hP0 z1
        have y2 : (x - b) / P < (i0 : Int) + j := Int.ediv_lt_of_lt_mul hP0 z2
        obtain ⟨p, hp⟩ := Int.eq_ofNat_of_zero_le (show 0 ≤ (x - b) / P by omega)
        have z3 : ((i0 : Int) + j) * P ≤ 8 * P := Int.mul_le_mul_of_nonneg_right (by omega) (by omega)
        have i0P : 0 ≤ (i0 : Int) * P := Int.mul_nonneg (by omega) (by omega)
        refine ⟨by omega, by omega, ?_⟩
        rw [hp]
        have x3' := (run_bit i0 g5 j (by omega) hj p (by omega)).2 ⟨by omega, by omega⟩
        rw [← hqq] at x3'
        have e : (255 - (q : Int)) = ((255 - q : Nat) : Int) := by omega
        rw [e]
        have : (((255 - q) / 2 ^ p % 2 : Nat) : Int) = 0 := by omega
        rw [← this]
        simp

theorem cvList_chain (en : Int) (hen : en ≤ 262144) (he32 : en % 32 = 0) : ∀ (n : Nat) (a : Int), 0 ≤ a → a ≤ en → a % 32 = 0 → en - a ≤ 32 * (n : Int) → Chain (cvList en n a) a en
  | 0, a, h0, h1, h2, h3 => by
    show a = en
    omega
  | n + 1, a, h0, h1, h2, h3 => by
    by_cases hlt : a < en
    · obtain ⟨b, l, q, hF, hl, hl2, hq, hc1, hc2, hc3, hb, hqo⟩ := chosen a en h0 hlt hen h2 he32
      rw [cvList_step en n a b l q hlt hF]
      refine ⟨cnt l q, has_cov a en b l q h0 hlt hen h2 hl hl2 hq hc1 hc3 hb hqo, ?_⟩
      exact cvList_chain en hen he32 n (a + cnt l q) (by omega) hc2 (by omega) (by omega)
    · rw [cvList_end en (n + 1) a hlt]
      show a = en
      omega
theorem chain_cov (L : List Rg) : ∀ (a e : Int), Chain L a e → ∀ i, i < L.length → ∃ at' c, Cov (L.getD i z6) at' c ∧ Chain (L.drop (i + 1)) (at' + c) e := by
  induction L with
  | nil => intro a e h i hi; simp at hi
  | cons g r ih =>
    intro a e h i hi
    obtain ⟨c, hc, hr⟩ := h
    cases i with
    | zero => exact ⟨a, c, by simpa using hc, by simpa using hr⟩
    | succ i => 
      obtain ⟨x, y, h1, h2⟩ := ih _ _ hr i (by simpa using hi)
      exact ⟨x, y, by simpa using h1, by simpa using h2⟩
theorem chain_le : ∀ (L : List Rg) (a e : Int), Chain L a e → a ≤ e
  | [], a, e, h => by rw [show a = e from h]; exact Int.le_refl _
  | g :: r, a, e, h => by
    obtain ⟨c, hc, hr⟩ := h
    have := chain_le r _ _ hr
    have := hc.pos
    omega
/-- the addresses of a chain -/
theorem chain_has : ∀ (L : List Rg) (a e : Int), Chain L a e → ∀ x, ((∃ g ∈ L, ghas g x = true) ↔ (a ≤ x ∧ x < e))
  | [], a, e, h, x => by
    have : a = e := h
    subst this
    simp
  | g :: r, a, e, h, x => by
    obtain ⟨c, hc, hr⟩ := h
    have ih := chain_has r _ _ hr x
    have hle := chain_le r _ _ hr
    have hp := hc.pos
    have hx := hc.has x
    constructor
    · rintro ⟨y, hy, hyx⟩
      rcases List.mem_cons.1 hy with rfl | hy
      · rw [hx] at hyx
        simp at hyx
        omega
      · have := ih.1 ⟨y, hy, hyx⟩
        omega
    · intro hxx
      by_cases hin : x < a + c
      · exact ⟨g, by simp, by rw [hx]; simp; omega⟩
      · obtain ⟨y, hy, hyx⟩ := ih.2 (by omega)
        exact ⟨y, by simp [hy], hyx⟩
end Go.Proofs.Ythnelonbpbhhbab
