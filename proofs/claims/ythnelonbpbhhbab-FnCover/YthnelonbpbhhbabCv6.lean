import Derived.Test.YthnelonbpbhhbabCv5
import Derived.Test.YthnelonbpbhhbabOwn
namespace Go.Proofs.Ythnelonbpbhhbab
open Go.RowKit
set_option linter.unusedVariables false

theorem pow_32 (l : Int) (hl : 8 ≤ l) (hl2 : l ≤ 14) : (32:Int) ∣ (2:Int)^(l - 3).toNat := by
  have : l = 8 ∨ l = 9 ∨ l = 10 ∨ l = 11 ∨ l = 12 ∨ l = 13 ∨ l = 14 := by omega
  rcases this with rfl | rfl | rfl | rfl | rfl | rfl | rfl <;> decide
theorem pow_32' (l : Int) (hl : 5 ≤ l) (hl2 : l ≤ 14) : (32:Int) ∣ (2:Int)^l.toNat := by
  have : l = 5 ∨ l = 6 ∨ l = 7 ∨ l = 8 ∨ l = 9 ∨ l = 10 ∨ l = 11 ∨ l = 12 ∨ l = 13 ∨ l = 14 := by omega
  rcases this with rfl | rfl | rfl | rfl | rfl | rfl | rfl | rfl | rfl | rfl <;> decide

/-- how many addresses the best region of Log l has -/
theorem qOf_cnt (a en l : Int) (hl : 5 ≤ l) (hl2 : l ≤ 14) (ha : 0 ≤ a) (hae : a < en) (hen : en ≤ 262144) : a + cnt l (qOf a en l) ≤ en ∧ (32:Int) ∣ cnt l (qOf a en l) := by
  obtain ⟨P, hP⟩ : ∃ P, (2:Int)^(l - 3).toNat = P := ⟨_, rfl⟩
  obtain ⟨N, hN⟩ : ∃ N, (2:Int)^l.toNat = N := ⟨_, rfl⟩
  obtain ⟨g1, g2, g3, g4, g5, g6, g7⟩ := parts a l P N hl hl2 hP hN ha (by omega)
  have h0 : a + cnt l 0 ≤ en ∧ (32:Int) ∣ cnt l 0 := by rw [cnt_zero]; exact ⟨by omega, Int.dvd_zero _⟩
  by_cases h8 : l < 8
  · by_cases hc : a % N = 0 ∧ a + N ≤ en
    · have e : qOf a en l = 255 := by unfold qOf; rw [if_pos h8, hN, if_pos hc]
      have e2 : cnt l 255 = N := by unfold cnt; rw [hP, show popc 255 = 8 from rfl, g1]; rfl
      rw [e, e2]
      refine ⟨hc.2, ?_⟩
      rw [← hN]
      exact pow_32' l hl hl2
    · have e : qOf a en l = 0 := by unfold qOf; rw [if_pos h8, hN, if_neg hc]
      rw [e]
      exact h0
  · by_cases hm : a % P = 0
    · have e : qOf a en l = runq (i0Of a l) (jOf a en l) := by unfold qOf; rw [if_neg h8, hP, if_pos hm]
      have hj : ((jOf a en l : Nat) : Int) ≤ (en - a) / P ∧ i0Of a l + jOf a en l ≤ 8 := by
        have : 0 ≤ (en - a) / P := Int.ediv_nonneg (by omega) (by omega)
        unfold jOf
        rw [hP]
        omega
      rw [e, cnt_run l P hP _ _ g5 hj.2]
      have := Int.mul_le_of_le_ediv (by omega) hj.1
      refine ⟨by omega, ?_⟩
      rw [← hP]
      exact Int.dvd_mul_of_dvd_right (pow_32 l (by omega) hl2)
    · have e : qOf a en l = 0 := by unfold qOf; rw [if_neg h8, hP, if_neg hm]
      rw [e]
      exact h0

/-- what the choice gives -/
theorem cvFold_gives (a en : Int) (ha : 0 ≤ a) (hae : a < en) (hen : en ≤ 262144) : ∀ n : Nat, n ≤ 10 → ∀ b l q, cvFold a en n = some (b, l, q) → 5 ≤ l ∧ l ≤ 14 ∧ b = baseOf a l ∧ q = qOf a en l
  | 0, _ => fun b l q h => by rw [cvFold_none] at h; cases h
  | n + 1, hn => by
    have ih := cvFold_gives a en ha hae hen n (by omega)
    intro b l q h
    rw [cvFold_succ] at h
    unfold keep at h
    split at h
    · simp at h
      obtain ⟨rfl, rfl, rfl⟩ := h
      exact ⟨by omega, by omega, rfl, rfl⟩
    · exact ih b l q h
theorem cvFold_some (a en : Int) (ha : 0 ≤ a) (hae : a + 32 ≤ en) (ha32 : a % 32 = 0) : ∀ n : Nat, ∃ x, cvFold a en (n + 1) = some x
  | 0 => by
    have e : qOf a en 5 = 255 := by
      unfold qOf
      rw [if_pos (by omega), if_pos]
      exact ⟨ha32, hae⟩
    refine ⟨(baseOf a 5, 5, 255), ?_⟩
    rw [cvFold_succ, cvFold_none]
    show keep none (baseOf a 5) 5 (qOf a en 5) = _
    rw [e]
    rfl
  | n + 1 => by
    obtain ⟨x, hx⟩ := cvFold_some a en ha hae ha32 n
    rw [cvFold_succ]
    unfold keep
    split
    · exact ⟨_, rfl⟩
    · exact ⟨x, hx⟩
/-- THE CHOICE AT AN ADDRESS. -/
theorem chosen (a en : Int) (ha : 0 ≤ a) (hae : a < en) (hen : en ≤ 262144) (ha32 : a % 32 = 0) (he32 : en % 32 = 0) :
    ∃ b l q, cvFold a en 10 = some (b, l, q) ∧ 5 ≤ l ∧ l ≤ 14 ∧ q < 256 ∧ 32 ≤ cnt l q ∧ a + cnt l q ≤ en ∧ cnt l q % 32 = 0 ∧ b = baseOf a l ∧ q = qOf a en l := by
  obtain ⟨⟨b, l, q⟩, hx⟩ := cvFold_some a en ha (by omega) ha32 9
  obtain ⟨k1, k2, k3, k4⟩ := cvFold_gives a en ha hae hen 10 (Nat.le_refl _) b l q hx
  obtain ⟨m1, m2, m3, m4⟩ := cvFold_ok a en ha (by omega) 10 (Nat.le_refl _) b l q hx
  obtain ⟨c1, c2⟩ := qOf_cnt a en l k1 k2 ha hae hen
  rw [← k4] at c1 c2
  exact ⟨b, l, q, hx, k1, k2, m3, by omega, c1, by omega, k3, k4⟩

/-- one turn of the cover -/
def cvTurn (s : St) (next : Int → List Rg) (a : Int) : List Rg :=
  match s with
  | some (b, l, q) => (b, l, 255 - (q : Int), false, false, false) :: next (a + cnt l q)
  | none => []
/-- THE COVER, of n grains at the most. -/
def cvList (en : Int) : Nat → Int → List Rg
  | 0, _ => []
  | n + 1, a => if a < en then cvTurn (cvFold a en 10) (cvList en n) a else []
theorem cvList_end (en : Int) (n : Nat) (a : Int) (h : ¬ a < en) : cvList en n a = [] := by
  cases n with
  | zero => rfl
  | succ n => exact if_neg h
theorem cvList_step (en : Int) (n : Nat) (a b l : Int) (q : Nat) (h : a < en) (hF : cvFold a en 10 = some (b, l, q)) : cvList en (n + 1) a = (b, l, 255 - (q : Int), false, false, false) :: cvList en n (a + cnt l q) := by
  have e : cvList en (n + 1) a = cvTurn (cvFold a en 10) (cvList en n) a := if_pos h
  rw [e, hF]
  rfl

def grn (x : Int) : Bool := decide (0 ≤ x ∧ x % 32 = 0)
set_option maxHeartbeats 1000000 in
theorem isGrained_any (x : Int) (w : World) :
    Calls Try.prog 40 #[.int .i64 x] w fun e w' => e = .returned (.bool (grn x)) ∧ w = w' := by
  by_cases h : 0 ≤ x
  · have HG := hide (show grn x = decide (x % 32 = 0) from by unfold grn; simp [h])
    go_enter Try.func40, Try.ntmps40
    go_wp2
    go_ret
    refine ⟨ret_bool ?_, rfl⟩
    rw [HG.out]
    rw [Bool.eq_iff_iff]
    simp
  · have HG := hide (show grn x = false from by unfold grn; simp; omega)
    go_enter Try.func40, Try.ntmps40
    go_wp2
    go_ret
    exact ⟨ret_bool HG.out.symm, rfl⟩

/-- WHAT Cover GIVES. -/
def CvPost (w : World) (ok : Bool) (L : List Rg) (e : Ending) (w' : World) : Prop :=
  ∃ (x : Option Addr) (m cap : Nat), e = .returned (.tuple #[.slice x m cap, .bool ok]) ∧ OR w' w.heap.size (.slice x m cap) L ∧ Below w.heap.size w w'
theorem or_nil (w : World) (base : Nat) : OR w base (.slice none 0 0) [] := ⟨⟨rfl, .inl ⟨rfl, rfl⟩⟩, fun _ h => by cases h⟩
end Go.Proofs.Ythnelonbpbhhbab
