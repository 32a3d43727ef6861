import Derived.Test.YtngdgogjlpjjpadGreatK01
namespace Go.Proofs.YtngdgogjlpjjpadGreat
open Go.RowKit
set_option linter.unusedVariables false

theorem wraps62 (n : Int) (h₀ : 0 ≤ n) (h₁ : n < 2 ^ 62) : IntKind.i64.wrap n = n := by
  rw [IntKind.wrap_i64]; omega
theorem nat_and_zero (a : Nat) : a &&& 983040 = (a / 65536 % 16) * 65536 := by
  apply Nat.eq_of_testBit_eq
  intro i
  have e1 : (983040 : Nat) = (2 ^ 4 - 1) * 2 ^ 16 := by decide
  have e2 : (a / 65536 % 16) * 65536 = (a / 2 ^ 16 % 2 ^ 4) * 2 ^ 16 := by rfl
  rw [e2, e1, Nat.testBit_and, Nat.testBit_mul_two_pow, Nat.testBit_mul_two_pow, Nat.testBit_mod_two_pow, Nat.testBit_div_two_pow, Nat.testBit_two_pow_sub_one]
  by_cases h : 16 ≤ i
  · have : i - 16 + 16 = i := by omega
    simp [h, this, Bool.and_comm]
  · simp [h]
theorem and_zero (x : Int) (h₀ : 0 ≤ x) (h₁ : x ≤ 4294967295) : bits .and .i64 x 983040 = (x / 65536 % 16) * 65536 := by
  obtain ⟨a, rfl⟩ := Int.eq_ofNat_of_zero_le h₀
  have := (bits_nat .i64 62 (by decide) wraps62 a 983040 (by omega) (by omega)).1
  rw [show (983040 : Int) = ((983040 : Nat) : Int) from rfl, this, nat_and_zero]
  simp
theorem and_7 (x : Int) (h₀ : 0 ≤ x) (h₁ : x ≤ 4294967295) : bits .and .i64 x 7 = x % 8 := bits_mask .i64 62 (by decide) wraps62 3 (by decide) x h₀ (by omega)
theorem and_imm (x : Int) (h₀ : 0 ≤ x) (h₁ : x ≤ 4294967295) : bits .and .i64 x 65535 = x % 65536 := bits_mask .i64 62 (by decide) wraps62 16 (by decide) x h₀ (by omega)
theorem join62 (i : Nat) (x y : Int) (hx₀ : 0 ≤ x) (hx : x % 2 ^ i = 0) (hx₁ : x < 2 ^ 62) (hy₀ : 0 ≤ y) (hy : y < 2 ^ i) (hy₁ : y < 2 ^ 62) : bits .or .i64 x y = x + y :=
  bits_join .i64 62 (by decide) wraps62 i x y hx₀ hx hx₁ hy₀ hy hy₁

set_option maxHeartbeats 400000 in
theorem isWord_any (v : Int) (w : World) :
    Calls Tryz.prog 168 #[.int .i64 v] w fun e w' => e = .returned (.bool (decide (0 ≤ v ∧ v ≤ 4294967295))) ∧ w = w' := by
  go_enter Tryz.func168, Tryz.ntmps168
  go_wp2
  all_goals
    go_ret
    refine ⟨ret_bool ?_, rfl⟩
    rw [Bool.eq_iff_iff]
    simp
    try omega
set_option maxHeartbeats 400000 in
theorem isUpTo_any (v m : Int) (w : World) :
    Calls Tryz.prog 63 #[.int .i64 v, .int .i64 m] w fun e w' => e = .returned (.bool (decide (0 ≤ v ∧ v ≤ m))) ∧ w = w' := by
  go_enter Tryz.func63, Tryz.ntmps63
  go_wp2
  all_goals
    go_ret
    refine ⟨ret_bool ?_, rfl⟩
    rw [Bool.eq_iff_iff]
    simp
    try omega

theorem Blk.four' {w : World} {g : Nat} {a b c d : Value} {t : TypeId} (h : Blk w g #[a, b, c, d] t) :
    w.cell? ⟨g, 0, none⟩ = some a ∧ w.cell? ⟨g, 1, none⟩ = some b ∧ w.cell? ⟨g, 2, none⟩ = some c ∧ w.cell? ⟨g, 3, none⟩ = some d ∧ ∀ i, w.frozen? ⟨g, i, none⟩ = false :=
  ⟨by rw [h.cell]; rfl, by rw [h.cell]; rfl, by rw [h.cell]; rfl, by rw [h.cell]; rfl, fun i => h.frozen i⟩
theorem ins_set {w2 : World} {g : Nat} {x y z u : Value} (hz : Blk w2 g #[x, y, z, u] 124) (o d a i : Int) :
    Blk ((((w2.setCell ⟨g, 0, none⟩ (.int .i64 o)).setCell ⟨g, 1, none⟩ (.int .i64 d)).setCell ⟨g, 2, none⟩ (.int .i64 a)).setCell ⟨g, 3, none⟩ (.int .i64 i)) g #[.int .i64 o, .int .i64 d, .int .i64 a, .int .i64 i] 124 :=
  Blk.set (Blk.set (Blk.set (Blk.set hz 0 _) 1 _) 2 _) 3 _
theorem ins_below {B : Nat} {w w2 : World} {g : Nat} (hg : B ≤ g) (h : Below B w w2) (o d a i : Int) :
    Below B w ((((w2.setCell ⟨g, 0, none⟩ (.int .i64 o)).setCell ⟨g, 1, none⟩ (.int .i64 d)).setCell ⟨g, 2, none⟩ (.int .i64 a)).setCell ⟨g, 3, none⟩ (.int .i64 i)) :=
  (((h.setCell hg _).setCell hg _).setCell hg _).setCell hg _
/-- an instruction and a bool are returned -/
def InsPost (w : World) (o d a i : Int) (b : Bool) (e : Ending) (w' : World) : Prop := e = .returned (.tuple #[.agg #[.int .i64 o, .int .i64 d, .int .i64 a, .int .i64 i], .bool b]) ∧ Below w.heap.size w w'
theorem great_end (w W : World) (tmps : Array Value) (o d a i : Int) (b : Bool) (h2 : tmps[2]? = some (.pointer (some ⟨w.heap.size, 0, none⟩))) (h3 : tmps[3]? = some (.bool b))
    (hz : Blk W w.heap.size #[.int .i64 o, .int .i64 d, .int .i64 a, .int .i64 i] 124) (hB : Below w.heap.size w W) :
    bodyPost Tryz.prog Tryz.f278 (InsPost w o d a i b) Exit.ret ⟨tmps, []⟩ W := by
  refine bodyPost_ret (v := .tuple #[.agg #[.int .i64 o, .int .i64 d, .int .i64 a, .int .i64 i], .bool b]) ?_ rfl ⟨rfl, hB⟩
  obtain ⟨p1, p2, p3, p4, p5⟩ := hz.four'
  simp [results, Tryz.results278, go_sem, h2, h3, p1, p2, p3, p4]
theorem ret_ins {op d a i d' a' i' : Int} {b : Bool} (h1 : d = d') (h2 : a = a') (h3 : i = i') : Ending.returned (.tuple #[.agg #[.int .i64 op, .int .i64 d, .int .i64 a, .int .i64 i], .bool b]) = .returned (.tuple #[.agg #[.int .i64 op, .int .i64 d', .int .i64 a', .int .i64 i'], .bool b]) := by rw [h1, h2, h3]

set_option maxHeartbeats 2000000 in
theorem greatest_out (op : Int) (w : World) (h : op ≤ 0 ∨ 26 ≤ op) :
    Calls Tryz.prog 278 #[.int .i64 op] w (InsPost w 0 0 0 0 false) := by
  have HZ := hide (Blk.new w #[.int .i64 0, .int .i64 0, .int .i64 0, .int .i64 0] 124)
  have HB := hide ((Below.refl w.heap.size w).alloc (Nat.le_refl _) (.cells #[.int .i64 0, .int .i64 0, .int .i64 0, .int .i64 0] 124))
  have e1 : (op == 1) = false := by simp; omega
  have e2 : (op == 2) = false := by simp; omega
  have e3 : (op == 3) = false := by simp; omega
  have e4 : (op == 4) = false := by simp; omega
  have e5 : (op == 5) = false := by simp; omega
  have e6 : (op == 6) = false := by simp; omega
  have e7 : (op == 7) = false := by simp; omega
  have e8 : (op == 8) = false := by simp; omega
  have e9 : (op == 9) = false := by simp; omega
  have e10 : (op == 10) = false := by simp; omega
  have e11 : (op == 11) = false := by simp; omega
  have e12 : (op == 12) = false := by simp; omega
  have e13 : (op == 13) = false := by simp; omega
  have e14 : (op == 14) = false := by simp; omega
  have e15 : (op == 15) = false := by simp; omega
  have e16 : (op == 16) = false := by simp; omega
  have e17 : (op == 17) = false := by simp; omega
  have e18 : (op == 18) = false := by simp; omega
  have e19 : (op == 19) = false := by simp; omega
  have e20 : (op == 20) = false := by simp; omega
  have e21 : (op == 21) = false := by simp; omega
  have e22 : (op == 22) = false := by simp; omega
  have e23 : (op == 23) = false := by simp; omega
  have e24 : (op == 24) = false := by simp; omega
  have e25 : (op == 25) = false := by simp; omega
  clear h
  go_enter Tryz.func278, Tryz.ntmps278
  go_wp2
  exact great_end w _ _ 0 0 0 0 false rfl rfl HZ.out HB.out

set_option maxHeartbeats 4000000 in
theorem greatest_in (op : Int) (w : World) (h : 1 ≤ op) (h2 : op ≤ 25) :
    Calls Tryz.prog 278 #[.int .i64 op] w (InsPost w op (mD (us op)) (mA (us op)) (mI (us op)) true) := by
  have HZ := hide (Blk.new w #[.int .i64 0, .int .i64 0, .int .i64 0, .int .i64 0] 124)
  have HB := hide ((Below.refl w.heap.size w).alloc (Nat.le_refl _) (.cells #[.int .i64 0, .int .i64 0, .int .i64 0, .int .i64 0] 124))
  rcases op_cases op with h | h | rfl | rfl | rfl | rfl | rfl | rfl | rfl | rfl | rfl | rfl | rfl | rfl | rfl | rfl | rfl | rfl | rfl | rfl | rfl | rfl | rfl | rfl | rfl | rfl | rfl
  · omega
  · omega
  · clear h h2
    rw [show us 1 = 0 from by decide, show mD 0 = 0 from by decide, show mA 0 = 0 from by decide, show mI 0 = 0 from by decide]
    go_enter Tryz.func278, Tryz.ntmps278
    go_wp2
    exact great_end w _ _ 1 0 0 0 true rfl rfl (Blk.new w _ _) ((Below.refl _ _).alloc (Nat.le_refl _) _)
  · clear h h2
    rw [show us 2 = 5 from by decide, show mD 5 = 7 from by decide, show mA 5 = 0 from by decide, show mI 5 = 65535 from by decide]
    go_enter Tryz.func278, Tryz.ntmps278
    go_wp2
    exact great_end w _ _ 2 7 0 65535 true rfl rfl (Blk.new w _ _) ((Below.refl _ _).alloc (Nat.le_refl _) _)
  · clear h h2
    rw [show us 3 = 5 from by decide, show mD 5 = 7 from by decide, show mA 5 = 0 from by decide, show mI 5 = 65535 from by decide]
    go_enter Tryz.func278, Tryz.ntmps278
    go_wp2
    exact great_end w _ _ 3 7 0 65535 true rfl rfl (Blk.new w _ _) ((Below.refl _ _).alloc (Nat.le_refl _) _)
  · clear h h2
    rw [show us 4 = 3 from by decide, show mD 3 = 7 from by decide, show mA 3 = 7 from by decide, show mI 3 = 0 from by decide]
    go_enter Tryz.func278, Tryz.ntmps278
    go_wp2
    exact great_end w _ _ 4 7 7 0 true rfl rfl (Blk.new w _ _) ((Below.refl _ _).alloc (Nat.le_refl _) _)
  · clear h h2
    rw [show us 5 = 3 from by decide, show mD 3 = 7 from by decide, show mA 3 = 7 from by decide, show mI 3 = 0 from by decide]
    go_enter Tryz.func278, Tryz.ntmps278
    go_wp2
    exact great_end w _ _ 5 7 7 0 true rfl rfl (Blk.new w _ _) ((Below.refl _ _).alloc (Nat.le_refl _) _)
  · clear h h2
    rw [show us 6 = 7 from by decide, show mD 7 = 7 from by decide, show mA 7 = 7 from by decide, show mI 7 = 65535 from by decide]
    go_enter Tryz.func278, Tryz.ntmps278
    go_wp2
    exact great_end w _ _ 6 7 7 65535 true rfl rfl (Blk.new w _ _) ((Below.refl _ _).alloc (Nat.le_refl _) _)
  · clear h h2
    rw [show us 7 = 3 from by decide, show mD 3 = 7 from by decide, show mA 3 = 7 from by decide, show mI 3 = 0 from by decide]
    go_enter Tryz.func278, Tryz.ntmps278
    go_wp2
    exact great_end w _ _ 7 7 7 0 true rfl rfl (Blk.new w _ _) ((Below.refl _ _).alloc (Nat.le_refl _) _)
  · clear h h2
    rw [show us 8 = 3 from by decide, show mD 3 = 7 from by decide, show mA 3 = 7 from by decide, show mI 3 = 0 from by decide]
    go_enter Tryz.func278, Tryz.ntmps278
    go_wp2
    exact great_end w _ _ 8 7 7 0 true rfl rfl (Blk.new w _ _) ((Below.refl _ _).alloc (Nat.le_refl _) _)
  · clear h h2
    rw [show us 9 = 3 from by decide, show mD 3 = 7 from by decide, show mA 3 = 7 from by decide, show mI 3 = 0 from by decide]
    go_enter Tryz.func278, Tryz.ntmps278
    go_wp2
    exact great_end w _ _ 9 7 7 0 true rfl rfl (Blk.new w _ _) ((Below.refl _ _).alloc (Nat.le_refl _) _)
  · clear h h2
    rw [show us 10 = 3 from by decide, show mD 3 = 7 from by decide, show mA 3 = 7 from by decide, show mI 3 = 0 from by decide]
    go_enter Tryz.func278, Tryz.ntmps278
    go_wp2
    exact great_end w _ _ 10 7 7 0 true rfl rfl (Blk.new w _ _) ((Below.refl _ _).alloc (Nat.le_refl _) _)
  · clear h h2
    rw [show us 11 = 3 from by decide, show mD 3 = 7 from by decide, show mA 3 = 7 from by decide, show mI 3 = 0 from by decide]
    go_enter Tryz.func278, Tryz.ntmps278
    go_wp2
    exact great_end w _ _ 11 7 7 0 true rfl rfl (Blk.new w _ _) ((Below.refl _ _).alloc (Nat.le_refl _) _)
  · clear h h2
    rw [show us 12 = 3 from by decide, show mD 3 = 7 from by decide, show mA 3 = 7 from by decide, show mI 3 = 0 from by decide]
    go_enter Tryz.func278, Tryz.ntmps278
    go_wp2
    exact great_end w _ _ 12 7 7 0 true rfl rfl (Blk.new w _ _) ((Below.refl _ _).alloc (Nat.le_refl _) _)
  · clear h h2
    rw [show us 13 = 3 from by decide, show mD 3 = 7 from by decide, show mA 3 = 7 from by decide, show mI 3 = 0 from by decide]
    go_enter Tryz.func278, Tryz.ntmps278
    go_wp2
    exact great_end w _ _ 13 7 7 0 true rfl rfl (Blk.new w _ _) ((Below.refl _ _).alloc (Nat.le_refl _) _)
  · clear h h2
    rw [show us 14 = 7 from by decide, show mD 7 = 7 from by decide, show mA 7 = 7 from by decide, show mI 7 = 65535 from by decide]
    go_enter Tryz.func278, Tryz.ntmps278
    go_wp2
    exact great_end w _ _ 14 7 7 65535 true rfl rfl (Blk.new w _ _) ((Below.refl _ _).alloc (Nat.le_refl _) _)
  · clear h h2
    rw [show us 15 = 7 from by decide, show mD 7 = 7 from by decide, show mA 7 = 7 from by decide, show mI 7 = 65535 from by decide]
    go_enter Tryz.func278, Tryz.ntmps278
    go_wp2
    exact great_end w _ _ 15 7 7 65535 true rfl rfl (Blk.new w _ _) ((Below.refl _ _).alloc (Nat.le_refl _) _)
  · clear h h2
    rw [show us 16 = 7 from by decide, show mD 7 = 7 from by decide, show mA 7 = 7 from by decide, show mI 7 = 65535 from by decide]
    go_enter Tryz.func278, Tryz.ntmps278
    go_wp2
    exact great_end w _ _ 16 7 7 65535 true rfl rfl (Blk.new w _ _) ((Below.refl _ _).alloc (Nat.le_refl _) _)
  · clear h h2
    rw [show us 17 = 7 from by decide, show mD 7 = 7 from by decide, show mA 7 = 7 from by decide, show mI 7 = 65535 from by decide]
    go_enter Tryz.func278, Tryz.ntmps278
    go_wp2
    exact great_end w _ _ 17 7 7 65535 true rfl rfl (Blk.new w _ _) ((Below.refl _ _).alloc (Nat.le_refl _) _)
  · clear h h2
    rw [show us 18 = 7 from by decide, show mD 7 = 7 from by decide, show mA 7 = 7 from by decide, show mI 7 = 65535 from by decide]
    go_enter Tryz.func278, Tryz.ntmps278
    go_wp2
    exact great_end w _ _ 18 7 7 65535 true rfl rfl (Blk.new w _ _) ((Below.refl _ _).alloc (Nat.le_refl _) _)
  · clear h h2
    rw [show us 19 = 7 from by decide, show mD 7 = 7 from by decide, show mA 7 = 7 from by decide, show mI 7 = 65535 from by decide]
    go_enter Tryz.func278, Tryz.ntmps278
    go_wp2
    exact great_end w _ _ 19 7 7 65535 true rfl rfl (Blk.new w _ _) ((Below.refl _ _).alloc (Nat.le_refl _) _)
  · clear h h2
    rw [show us 20 = 4 from by decide, show mD 4 = 0 from by decide, show mA 4 = 0 from by decide, show mI 4 = 65535 from by decide]
    go_enter Tryz.func278, Tryz.ntmps278
    go_wp2
    exact great_end w _ _ 20 0 0 65535 true rfl rfl (Blk.new w _ _) ((Below.refl _ _).alloc (Nat.le_refl _) _)
  · clear h h2
    rw [show us 21 = 5 from by decide, show mD 5 = 7 from by decide, show mA 5 = 0 from by decide, show mI 5 = 65535 from by decide]
    go_enter Tryz.func278, Tryz.ntmps278
    go_wp2
    exact great_end w _ _ 21 7 0 65535 true rfl rfl (Blk.new w _ _) ((Below.refl _ _).alloc (Nat.le_refl _) _)
  · clear h h2
    rw [show us 22 = 5 from by decide, show mD 5 = 7 from by decide, show mA 5 = 0 from by decide, show mI 5 = 65535 from by decide]
    go_enter Tryz.func278, Tryz.ntmps278
    go_wp2
    exact great_end w _ _ 22 7 0 65535 true rfl rfl (Blk.new w _ _) ((Below.refl _ _).alloc (Nat.le_refl _) _)
  · clear h h2
    rw [show us 23 = 4 from by decide, show mD 4 = 0 from by decide, show mA 4 = 0 from by decide, show mI 4 = 65535 from by decide]
    go_enter Tryz.func278, Tryz.ntmps278
    go_wp2
    exact great_end w _ _ 23 0 0 65535 true rfl rfl (Blk.new w _ _) ((Below.refl _ _).alloc (Nat.le_refl _) _)
  · clear h h2
    rw [show us 24 = 4 from by decide, show mD 4 = 0 from by decide, show mA 4 = 0 from by decide, show mI 4 = 65535 from by decide]
    go_enter Tryz.func278, Tryz.ntmps278
    go_wp2
    exact great_end w _ _ 24 0 0 65535 true rfl rfl (Blk.new w _ _) ((Below.refl _ _).alloc (Nat.le_refl _) _)
  · clear h h2
    rw [show us 25 = 0 from by decide, show mD 0 = 0 from by decide, show mA 0 = 0 from by decide, show mI 0 = 0 from by decide]
    go_enter Tryz.func278, Tryz.ntmps278
    go_wp2
    exact great_end w _ _ 25 0 0 0 true rfl rfl (Blk.new w _ _) ((Below.refl _ _).alloc (Nat.le_refl _) _)
end Go.Proofs.YtngdgogjlpjjpadGreat
