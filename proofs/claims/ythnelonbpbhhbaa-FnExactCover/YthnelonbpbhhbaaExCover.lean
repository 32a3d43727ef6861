import Derived.Test.YthnelonbpbhhbaaCv14
import Derived.Test.YthnelonbpbhhbaaCv12
import Derived.Test.YthnelonbpbhhbaaCv8
import Derived.Test.YthnelonbpbhhbaaAl7
namespace Go.Proofs.Ythnelonbpbhhbaa
open Go.RowKit
set_option linter.unusedVariables false

theorem cvList_len (en : Int) : ∀ (n : Nat) (a : Int), (cvList en n a).length ≤ n
  | 0, a => by simp [cvList]
  | n + 1, a => by
    unfold cvList
    split
    · cases cvFold a en 10 with
      | none => simp [cvTurn]
      | some x =>
        obtain ⟨b, l, q⟩ := x
        have := cvList_len en n (a + cnt l q)
        simp [cvTurn]
        omega
    · simp
theorem cvL_len (f s : Int) : (cvL f s).length ≤ 8192 := by
  unfold cvL
  cases e : cvOk f s
  · simp
  · unfold cvOk grn at e
    simp at e
    have := cvList_len (f + s) (s / 32).toNat f
    simp [cvAll]
    omega

set_option maxHeartbeats 1000000 in
theorem exactCover_walk (f s : Int) (w : World) (hf : wfi f) (hs : wfi s) :
    Calls Try.prog 8 #[.int .i64 f, .int .i64 s] w fun e w' => e = .returned (.bool true) ∧ Below w.heap.size w w' := by
  have HI := hide (fun w => iCover_any f s w hf)
  have HC := hide (fun w => sCover_any f s w hf hs)
  have HL := hide (cvL_len f s)
  generalize cvL f s = L at *
  generalize cvOk f s = ok at *
  have hne : (ok != ok) = false := by simp
  go_enter Try.func8, Try.ntmps8
  go_wp2_with fail
  refine (HC.out _).mono ?_
  rintro e w1 ⟨x1, m1, c1, rfl, o1, b1⟩
  go_wp2_with fail
  refine (HI.out _).mono ?_
  rintro e w2 ⟨x2, m2, c2, rfl, o2, b2⟩
  have L1 := hide (or_lt o1)
  have l1 := (or_rs o1).1
  have l2 := (or_rs o2).1
  obtain rfl : m1 = m2 := by omega
  have o1 := turn_or (S := fun _ => False) (turn_below b2) o1 (fun _ _ h => h)
  have hB := b1.trans (b2.mono b1.size)
  have hlt1 := b1.size
  clear b1
  go_wp2_with fail
  refine (eqRegionS_same _ _ m1 _ _ L _ (or_rs o2) (or_rs o1)).mono ?_
  rintro e w3 ⟨rfl, b3⟩
  have o1 := turn_or (S := fun _ => False) (turn_below b3) o1 (fun _ _ h => h)
  have o2 := turn_or (S := fun _ => False) (turn_below b3) o2 (fun _ _ h => h)
  have hB := hB.trans (b3.mono hB.size)
  have hs2 := b2.size
  have hs3 := b3.size
  clear b2 b3
  go_wp2_with fail
  refine (markRegionS_any x2 m1 c2 _ L 1 _ o2 (by have := HL.out; omega) (by omega)).mono ?_
  rintro e w4 ⟨rfl, r4, t4⟩
  have o1 := turn_or' t4 o1 (fun k hk h => by have := L1.out k hk; omega)
  have hB := below_turn hB t4 (fun k h => by have := h.1; omega) (by omega)
  clear t4 o2
  have hq : (0 : Int) ≤ ((1 + 6 * m1 : Nat) : Int) := by omega
  have hqe : (((1 + 6 * m1 : Nat) : Int) != ((1 + 6 * m1 : Nat) : Int)) = false := by simp
  go_wp2_with fail
  refine (heldRegionS_any x2 m1 c2 1 _ r4 (by have := HL.out; omega) (by omega)).mono ?_
  rintro e w5 ⟨rfl, rfl⟩
  go_wp2_with fail
  refine (HI.out _).mono ?_
  rintro e w6 ⟨x6, m6, c6, rfl, o6, b6⟩
  have l6 := (or_rs o6).1
  obtain rfl : m1 = m6 := by omega
  have o1 := turn_or (S := fun _ => False) (turn_below b6) o1 (fun _ _ h => h)
  have hB := hB.trans (b6.mono hB.size)
  clear b6
  go_wp2_with fail
  refine (eqRegionS_same _ _ m1 _ _ L _ (or_rs o6) (or_rs o1)).mono ?_
  rintro e w7 ⟨rfl, b7⟩
  go_wp2
  go_ret
  exact ⟨rfl, hB.trans (b7.mono hB.size)⟩
end Go.Proofs.Ythnelonbpbhhbaa
