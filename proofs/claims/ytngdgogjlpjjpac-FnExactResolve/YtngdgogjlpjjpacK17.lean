import Derived.Test.YtngdgogjlpjjpacK16
namespace Go.Proofs.Ytngdgogjlpjjpac
open Go.RowKit
set_option linter.unusedVariables false

theorem wraps62 (n : Int) (h₀ : 0 ≤ n) (h₁ : n < 2 ^ 62) : IntKind.i64.wrap n = n := by
  rw [IntKind.wrap_i64]; omega
theorem nat_and_zero (a : Nat) : a &&& 983040 = (a / 65536 % 16) * 65536 := by
  apply Nat.eq_of_testBit_eq
  intro i
  have e1 : (983040 : Nat) = (2 ^ 4 - 1) * 2 ^ 16 := by decide
  have e2 : (a / 65536 % 16) * 65536 = (a / 2 ^ 16 % 2 ^ 4) * 2 ^ 16 := by rfl
  rw [e2, e1, Nat.testBit_and, Nat.testBit_mul_two_pow, Nat.testBit_mul_two_pow, Nat.testBit_mod_two_pow, Nat.testBit_div_two_pow, Nat.testBit_two_pow_sub_one]
  by_cases h : 16 ≤ i
  · have : i - 16 + 16 = i := by omega
    simp [h, this, Bool.and_comm]
  · simp [h]
theorem and_zero (x : Int) (h₀ : 0 ≤ x) (h₁ : x ≤ 4294967295) : bits .and .i64 x 983040 = (x / 65536 % 16) * 65536 := by
  obtain ⟨a, rfl⟩ := Int.eq_ofNat_of_zero_le h₀
  have := (bits_nat .i64 62 (by decide) wraps62 a 983040 (by omega) (by omega)).1
  rw [show (983040 : Int) = ((983040 : Nat) : Int) from rfl, this, nat_and_zero]
  simp
theorem and_7 (x : Int) (h₀ : 0 ≤ x) (h₁ : x ≤ 4294967295) : bits .and .i64 x 7 = x % 8 := bits_mask .i64 62 (by decide) wraps62 3 (by decide) x h₀ (by omega)
theorem and_imm (x : Int) (h₀ : 0 ≤ x) (h₁ : x ≤ 4294967295) : bits .and .i64 x 65535 = x % 65536 := bits_mask .i64 62 (by decide) wraps62 16 (by decide) x h₀ (by omega)
theorem join62 (i : Nat) (x y : Int) (hx₀ : 0 ≤ x) (hx : x % 2 ^ i = 0) (hx₁ : x < 2 ^ 62) (hy₀ : 0 ≤ y) (hy : y < 2 ^ i) (hy₁ : y < 2 ^ 62) : bits .or .i64 x y = x + y :=
  bits_join .i64 62 (by decide) wraps62 i x y hx₀ hx hx₁ hy₀ hy hy₁

set_option maxHeartbeats 400000 in
theorem isWord_any (v : Int) (w : World) :
    Calls Try.prog 139 #[.int .i64 v] w fun e w' => e = .returned (.bool (decide (0 ≤ v ∧ v ≤ 4294967295))) ∧ w = w' := by
  go_enter Try.func139, Try.ntmps139
  go_wp2
  all_goals
    go_ret
    refine ⟨ret_bool ?_, rfl⟩
    rw [Bool.eq_iff_iff]
    simp
    try omega
set_option maxHeartbeats 400000 in
theorem isUpTo_any (v m : Int) (w : World) :
    Calls Try.prog 78 #[.int .i64 v, .int .i64 m] w fun e w' => e = .returned (.bool (decide (0 ≤ v ∧ v ≤ m))) ∧ w = w' := by
  go_enter Try.func78, Try.ntmps78
  go_wp2
  all_goals
    go_ret
    refine ⟨ret_bool ?_, rfl⟩
    rw [Bool.eq_iff_iff]
    simp
    try omega

theorem Blk.four' {w : World} {g : Nat} {a b c d : Value} {t : TypeId} (h : Blk w g #[a, b, c, d] t) :
    w.cell? ⟨g, 0, none⟩ = some a ∧ w.cell? ⟨g, 1, none⟩ = some b ∧ w.cell? ⟨g, 2, none⟩ = some c ∧ w.cell? ⟨g, 3, none⟩ = some d ∧ ∀ i, w.frozen? ⟨g, i, none⟩ = false :=
  ⟨by rw [h.cell]; rfl, by rw [h.cell]; rfl, by rw [h.cell]; rfl, by rw [h.cell]; rfl, fun i => h.frozen i⟩
theorem ins_set {w2 : World} {g : Nat} {x y z u : Value} (hz : Blk w2 g #[x, y, z, u] 162) (o d a i : Int) :
    Blk ((((w2.setCell ⟨g, 0, none⟩ (.int .i64 o)).setCell ⟨g, 1, none⟩ (.int .i64 d)).setCell ⟨g, 2, none⟩ (.int .i64 a)).setCell ⟨g, 3, none⟩ (.int .i64 i)) g #[.int .i64 o, .int .i64 d, .int .i64 a, .int .i64 i] 162 :=
  Blk.set (Blk.set (Blk.set (Blk.set hz 0 _) 1 _) 2 _) 3 _
theorem ins_below {B : Nat} {w w2 : World} {g : Nat} (hg : B ≤ g) (h : Below B w w2) (o d a i : Int) :
    Below B w ((((w2.setCell ⟨g, 0, none⟩ (.int .i64 o)).setCell ⟨g, 1, none⟩ (.int .i64 d)).setCell ⟨g, 2, none⟩ (.int .i64 a)).setCell ⟨g, 3, none⟩ (.int .i64 i)) :=
  (((h.setCell hg _).setCell hg _).setCell hg _).setCell hg _
/-- an instruction and a bool are returned -/
def InsPost (w : World) (o d a i : Int) (b : Bool) (e : Ending) (w' : World) : Prop := e = .returned (.tuple #[.agg #[.int .i64 o, .int .i64 d, .int .i64 a, .int .i64 i], .bool b]) ∧ Below w.heap.size w w'
theorem ret_ins {op d a i d' a' i' : Int} {b : Bool} (h1 : d = d') (h2 : a = a') (h3 : i = i') : Ending.returned (.tuple #[.agg #[.int .i64 op, .int .i64 d, .int .i64 a, .int .i64 i], .bool b]) = .returned (.tuple #[.agg #[.int .i64 op, .int .i64 d', .int .i64 a', .int .i64 i'], .bool b]) := by rw [h1, h2, h3]

end Go.Proofs.Ytngdgogjlpjjpac
