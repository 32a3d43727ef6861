import Derived.Test.YthnelonbpbhhbaaDe4
namespace Go.Proofs.Ythnelonbpbhhbaa
open Go.RowKit
set_option linter.unusedVariables false

set_option maxHeartbeats 1000000 in
theorem eqIns_same (op d a i : Int) (w : World) :
    Calls Try.prog 17 #[.agg #[.int .i64 op, .int .i64 d, .int .i64 a, .int .i64 i], .agg #[.int .i64 op, .int .i64 d, .int .i64 a, .int .i64 i]] w fun e w' => e = .returned (.bool true) ∧ Below w.heap.size w w' := by
  have e1 : (op != op) = false := by simp
  have e2 : (d != d) = false := by simp
  have e3 : (a != a) = false := by simp
  have e4 : (i != i) = false := by simp
  go_enter Try.func17, Try.ntmps17
  go_wp2
  go_ret
  exact ⟨rfl, ((Below.refl _ _).alloc (Nat.le_refl _) _).alloc (by simp) _⟩

set_option maxHeartbeats 1000000 in
theorem exactDecode_walk (x : Int) (w : World) :
    Calls Try.prog 5 #[.int .i64 x] w fun e w' => e = .returned (.bool true) ∧ Below w.heap.size w w' := by
  obtain ⟨op, d, a, i, b, hP⟩ : ∃ op d a i b, ∀ w, DecPost w x = InsPost w op d a i b := by
    unfold DecPost
    cases dOk x
    · exact ⟨0, 0, 0, 0, false, fun w => by rw [if_neg (by simp)]⟩
    · exact ⟨_, _, _, _, true, fun w => if_pos rfl⟩
  have HS := hide (show ∀ w, Calls Try.prog 15 #[.int .i64 x] w (InsPost w op d a i b) from fun w => by rw [← hP]; exact sDecode_any x w)
  have HI := hide (show ∀ w, Calls Try.prog 16 #[.int .i64 x] w (InsPost w op d a i b) from fun w => by rw [← hP]; exact iDecode_any x w)
  clear hP
  have e2 : (b != b) = false := by simp
  go_enter Try.func5, Try.ntmps5
  go_wp2_with fail
  refine (HS.out _).mono ?_
  rintro e w1 ⟨rfl, hb1⟩
  go_wp2_with fail
  refine (HI.out _).mono ?_
  rintro e w2 ⟨rfl, hb2⟩
  have k1 := (Blk.new w1 #[.int .i64 op, .int .i64 d, .int .i64 a, .int .i64 i] 35).below hb2
  obtain ⟨q1, q2, q3, q4, q5⟩ := k1.four'
  have hz : w1.heap.size < w2.heap.size := by have := hb2.size; simp at this; omega
  have hB : Below w.heap.size w w2 := (hb1.alloc hb1.size _).trans (hb2.mono (by have := hb1.size; simp; omega))
  clear k1 hb2
  go_wp2_with fail
  refine (eqIns_same op d a i _).mono ?_
  rintro e w3 ⟨rfl, hb3⟩
  go_wp2
  go_ret
  exact ⟨rfl, (hB.alloc hB.size _).trans (hb3.mono (by have := hB.size; simp; omega))⟩
end Go.Proofs.Ythnelonbpbhhbaa
