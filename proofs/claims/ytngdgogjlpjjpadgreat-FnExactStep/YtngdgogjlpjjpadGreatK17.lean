import Derived.Test.YtngdgogjlpjjpadGreatK07
import Derived.Test.YtngdgogjlpjjpadGreatK10
namespace Go.Proofs.YtngdgogjlpjjpadGreat
open Go.RowKit
set_option linter.unusedVariables false
set_option linter.unusedSimpArgs false
set_option maxRecDepth 100000

/-- WHAT AN OPERATION ON REGISTERS MAKES of the words d and a. -/
def alu (op i d a : Int) : Int :=
  if op = 2 then i else if op = 3 then d % 65536 + i * 65536 else if op = 4 then a else if op = 5 then (d + a) % 4294967296
  else if op = 6 then (a + wide i) % 4294967296 else if op = 7 then (d - a) % 4294967296 else if op = 8 then (d * a) % 4294967296
  else if op = 9 then bits .and .i64 d a else if op = 10 then bits .or .i64 d a else if op = 11 then bits .xor .i64 d a
  else if op = 12 then (d * (2:Int)^(a % 32).toNat) % 4294967296 else d / (2:Int)^(a % 32).toNat

theorem mul_split (d a : Int) : (d % 65536 * a + d / 65536 * (a % 65536) * 65536) % 4294967296 = (d * a) % 4294967296 := by
  have h1 : d = d % 65536 + 65536 * (d / 65536) := (Int.emod_add_mul_ediv d 65536).symm
  have h2 : a = a % 65536 + 65536 * (a / 65536) := (Int.emod_add_mul_ediv a 65536).symm
  have e : d * a = (d % 65536 * a + d / 65536 * (a % 65536) * 65536) + 4294967296 * (d / 65536 * (a / 65536)) := by
    generalize d % 65536 = dl at *
    generalize d / 65536 = dh at *
    generalize a % 65536 = al at *
    generalize a / 65536 = ah at *
    subst h1
    rw [Int.add_mul]
    have : 65536 * dh * a = dh * al * 65536 + 4294967296 * (dh * ah) := by
      rw [h2, Int.mul_add]
      have x1 : 65536 * dh * al = dh * al * 65536 := by rw [Int.mul_assoc, Int.mul_comm]
      have x2 : 65536 * dh * (65536 * ah) = 4294967296 * (dh * ah) := by
        rw [Int.mul_assoc, Int.mul_left_comm dh 65536 ah, ← Int.mul_assoc]
        rfl
      rw [x1, x2]
    rw [this]
    omega
  rw [e, Int.add_mul_emod_self_left]
theorem shl_split (d : Int) (s : Nat) (hs : s < 32) : d % (4294967296 / (2:Int)^s) * (2:Int)^s = (d * (2:Int)^s) % 4294967296 := by
  have h1 : (4294967296 : Int) = (2:Int)^(32 - s) * (2:Int)^s := by rw [← Int.pow_add, show 32 - s + s = 32 by omega]; rfl
  have hp := pow_pos s
  have h2 : (4294967296 : Int) / (2:Int)^s = (2:Int)^(32 - s) := by
    rw [h1]
    exact Int.mul_ediv_cancel _ (by omega)
  have h3 := Int.mul_emod_mul_of_pos (a := (2:Int)^s) d ((2:Int)^(32 - s)) hp
  rw [h2, h1, Int.mul_comm d, Int.mul_comm ((2:Int)^(32 - s)) ((2:Int)^s), h3, Int.mul_comm]
theorem pow_shift (a : Int) (h0 : 0 ≤ a) : (a % 32 < 16 → (2:Int)^(a % 16).toNat = (2:Int)^(a % 32).toNat) ∧ (16 ≤ a % 32 → (2:Int)^(a % 16).toNat * 65536 = (2:Int)^(a % 32).toNat) := by
  constructor
  · intro h
    rw [show (a % 16).toNat = (a % 32).toNat by omega]
  · intro h
    rw [show (65536 : Int) = (2:Int)^16 from rfl, ← Int.pow_add, show (a % 16).toNat + 16 = (a % 32).toNat by omega]

theorem pw15 (n : Nat) (h : n ≤ 15) : (2:Int)^n ≤ 32768 := by
  have h1 : (2:Nat)^n ≤ 2^15 := Nat.pow_le_pow_right (by omega) h
  have h2 : ((2^n : Nat) : Int) = (2:Int)^n := by simp
  have h3 : (2:Nat)^15 = 32768 := rfl
  omega

set_option maxHeartbeats 1000000 in
theorem l3Alu_2 (dd aa i d a : Int) (w : World) (i0 : 0 ≤ i) (i1 : i ≤ 65535) (d0 : 0 ≤ d) (d1 : d ≤ 4294967295) (a0 : 0 ≤ a) (a1 : a ≤ 4294967295) :
    Calls Tryz.prog 87 #[.agg #[.int .i64 2, .int .i64 dd, .int .i64 aa, .int .i64 i], .int .i64 d, .int .i64 a] w fun e w' => e = .returned (.int .i64 (alu 2 i d a)) ∧ Below w.heap.size w w' := by
  have hp := pw15 (a % 16).toNat (by omega)
  have hp0 := pow_pos (a % 16).toNat
  have HP := hide (fun w => l2Power_any (a % 16) (by omega) (by omega) w)
  generalize (2:Int)^(a % 16).toNat = P at *
  rw [show alu 2 i d a = i from rfl]
  by_cases hs : 16 ≤ a % 32
  all_goals
    go_enter Tryz.func87, Tryz.ntmps87
    go_wp2_with (first | (go_at_call 167; refine (HP.out _).mono ?_; rintro e w' ⟨rfl, rfl⟩))
    go_ret
    exact ⟨rfl, (Below.refl _ _).alloc (Nat.le_refl _) _⟩

set_option maxHeartbeats 1000000 in
theorem l3Alu_3 (dd aa i d a : Int) (w : World) (i0 : 0 ≤ i) (i1 : i ≤ 65535) (d0 : 0 ≤ d) (d1 : d ≤ 4294967295) (a0 : 0 ≤ a) (a1 : a ≤ 4294967295) :
    Calls Tryz.prog 87 #[.agg #[.int .i64 3, .int .i64 dd, .int .i64 aa, .int .i64 i], .int .i64 d, .int .i64 a] w fun e w' => e = .returned (.int .i64 (alu 3 i d a)) ∧ Below w.heap.size w w' := by
  have hp := pw15 (a % 16).toNat (by omega)
  have hp0 := pow_pos (a % 16).toNat
  have HP := hide (fun w => l2Power_any (a % 16) (by omega) (by omega) w)
  generalize (2:Int)^(a % 16).toNat = P at *
  rw [show alu 3 i d a = d % 65536 + i * 65536 from rfl]
  by_cases hs : 16 ≤ a % 32
  all_goals
    go_enter Tryz.func87, Tryz.ntmps87
    go_wp2_with (first | (go_at_call 167; refine (HP.out _).mono ?_; rintro e w' ⟨rfl, rfl⟩))
    go_ret
    exact ⟨rfl, (Below.refl _ _).alloc (Nat.le_refl _) _⟩

set_option maxHeartbeats 1000000 in
theorem l3Alu_4 (dd aa i d a : Int) (w : World) (i0 : 0 ≤ i) (i1 : i ≤ 65535) (d0 : 0 ≤ d) (d1 : d ≤ 4294967295) (a0 : 0 ≤ a) (a1 : a ≤ 4294967295) :
    Calls Tryz.prog 87 #[.agg #[.int .i64 4, .int .i64 dd, .int .i64 aa, .int .i64 i], .int .i64 d, .int .i64 a] w fun e w' => e = .returned (.int .i64 (alu 4 i d a)) ∧ Below w.heap.size w w' := by
  have hp := pw15 (a % 16).toNat (by omega)
  have hp0 := pow_pos (a % 16).toNat
  have HP := hide (fun w => l2Power_any (a % 16) (by omega) (by omega) w)
  generalize (2:Int)^(a % 16).toNat = P at *
  rw [show alu 4 i d a = a from rfl]
  by_cases hs : 16 ≤ a % 32
  all_goals
    go_enter Tryz.func87, Tryz.ntmps87
    go_wp2_with (first | (go_at_call 167; refine (HP.out _).mono ?_; rintro e w' ⟨rfl, rfl⟩))
    go_ret
    exact ⟨rfl, (Below.refl _ _).alloc (Nat.le_refl _) _⟩

set_option maxHeartbeats 1000000 in
theorem l3Alu_5 (dd aa i d a : Int) (w : World) (i0 : 0 ≤ i) (i1 : i ≤ 65535) (d0 : 0 ≤ d) (d1 : d ≤ 4294967295) (a0 : 0 ≤ a) (a1 : a ≤ 4294967295) :
    Calls Tryz.prog 87 #[.agg #[.int .i64 5, .int .i64 dd, .int .i64 aa, .int .i64 i], .int .i64 d, .int .i64 a] w fun e w' => e = .returned (.int .i64 (alu 5 i d a)) ∧ Below w.heap.size w w' := by
  have hp := pw15 (a % 16).toNat (by omega)
  have hp0 := pow_pos (a % 16).toNat
  have HP := hide (fun w => l2Power_any (a % 16) (by omega) (by omega) w)
  generalize (2:Int)^(a % 16).toNat = P at *
  rw [show alu 5 i d a = (d + a) % 4294967296 from rfl]
  have HL := hide (fun w => l1Word_any (d + a) w (by omega))
  by_cases hs : 16 ≤ a % 32
  all_goals
    go_enter Tryz.func87, Tryz.ntmps87
    go_wp2_with (first | (go_at_call 167; refine (HP.out _).mono ?_; rintro e w' ⟨rfl, rfl⟩) | (go_at_call 72; refine (HL.out _).mono ?_; rintro e w' ⟨rfl, rfl⟩))
    go_ret
    exact ⟨rfl, (Below.refl _ _).alloc (Nat.le_refl _) _⟩

set_option maxHeartbeats 1000000 in
theorem l3Alu_6 (dd aa i d a : Int) (w : World) (i0 : 0 ≤ i) (i1 : i ≤ 65535) (d0 : 0 ≤ d) (d1 : d ≤ 4294967295) (a0 : 0 ≤ a) (a1 : a ≤ 4294967295) :
    Calls Tryz.prog 87 #[.agg #[.int .i64 6, .int .i64 dd, .int .i64 aa, .int .i64 i], .int .i64 d, .int .i64 a] w fun e w' => e = .returned (.int .i64 (alu 6 i d a)) ∧ Below w.heap.size w w' := by
  have hp := pw15 (a % 16).toNat (by omega)
  have hp0 := pow_pos (a % 16).toNat
  have HP := hide (fun w => l2Power_any (a % 16) (by omega) (by omega) w)
  generalize (2:Int)^(a % 16).toNat = P at *
  rw [show alu 6 i d a = (a + wide i) % 4294967296 from rfl]
  obtain ⟨x0, x1⟩ := wide_range i i0 i1
  have HW := hide (fun w => l3Wide_any i w i0 i1)
  generalize wide i = x at *
  have HL := hide (fun w => l1Word_any (a + x) w (by omega))
  by_cases hs : 16 ≤ a % 32
  all_goals
    go_enter Tryz.func87, Tryz.ntmps87
    go_wp2_with (first | (go_at_call 167; refine (HP.out _).mono ?_; rintro e w' ⟨rfl, rfl⟩) | (go_at_call 89; refine (HW.out _).mono ?_; rintro e w' ⟨rfl, rfl⟩) | (go_at_call 72; refine (HL.out _).mono ?_; rintro e w' ⟨rfl, rfl⟩))
    go_ret
    exact ⟨rfl, (Below.refl _ _).alloc (Nat.le_refl _) _⟩

set_option maxHeartbeats 1000000 in
theorem l3Alu_7 (dd aa i d a : Int) (w : World) (i0 : 0 ≤ i) (i1 : i ≤ 65535) (d0 : 0 ≤ d) (d1 : d ≤ 4294967295) (a0 : 0 ≤ a) (a1 : a ≤ 4294967295) :
    Calls Tryz.prog 87 #[.agg #[.int .i64 7, .int .i64 dd, .int .i64 aa, .int .i64 i], .int .i64 d, .int .i64 a] w fun e w' => e = .returned (.int .i64 (alu 7 i d a)) ∧ Below w.heap.size w w' := by
  have hp := pw15 (a % 16).toNat (by omega)
  have hp0 := pow_pos (a % 16).toNat
  have HP := hide (fun w => l2Power_any (a % 16) (by omega) (by omega) w)
  generalize (2:Int)^(a % 16).toNat = P at *
  rw [show alu 7 i d a = (d - a) % 4294967296 from rfl]
  have HL := hide (fun w => l1Word_any (d - a) w (by omega))
  by_cases hs : 16 ≤ a % 32
  all_goals
    go_enter Tryz.func87, Tryz.ntmps87
    go_wp2_with (first | (go_at_call 167; refine (HP.out _).mono ?_; rintro e w' ⟨rfl, rfl⟩) | (go_at_call 72; refine (HL.out _).mono ?_; rintro e w' ⟨rfl, rfl⟩))
    go_ret
    exact ⟨rfl, (Below.refl _ _).alloc (Nat.le_refl _) _⟩

set_option maxHeartbeats 1000000 in
theorem l3Alu_8 (dd aa i d a : Int) (w : World) (i0 : 0 ≤ i) (i1 : i ≤ 65535) (d0 : 0 ≤ d) (d1 : d ≤ 4294967295) (a0 : 0 ≤ a) (a1 : a ≤ 4294967295) :
    Calls Tryz.prog 87 #[.agg #[.int .i64 8, .int .i64 dd, .int .i64 aa, .int .i64 i], .int .i64 d, .int .i64 a] w fun e w' => e = .returned (.int .i64 (alu 8 i d a)) ∧ Below w.heap.size w w' := by
  have hp := pw15 (a % 16).toNat (by omega)
  have hp0 := pow_pos (a % 16).toNat
  have HP := hide (fun w => l2Power_any (a % 16) (by omega) (by omega) w)
  generalize (2:Int)^(a % 16).toNat = P at *
  rw [show alu 8 i d a = (d * a) % 4294967296 from rfl]
  have X0 : 0 ≤ d % 65536 * a := Int.mul_nonneg (by omega) (by omega)
  have X1 : d % 65536 * a ≤ 65535 * 4294967295 := Int.mul_le_mul (by omega) (by omega) (by omega) (by omega)
  have Y0 : 0 ≤ d / 65536 * (a % 65536) := Int.mul_nonneg (by omega) (by omega)
  have Y1 : d / 65536 * (a % 65536) ≤ 65535 * 65535 := Int.mul_le_mul (by omega) (by omega) (by omega) (by omega)
  have HM := hide (mul_split d a)
  rw [← HM.out]
  clear HM
  have HL := hide (fun w => l1Word_any (d % 65536 * a + d / 65536 * (a % 65536) * 65536) w (by omega))
  by_cases hs : 16 ≤ a % 32
  all_goals
    go_enter Tryz.func87, Tryz.ntmps87
    go_wp2_with (first | (go_at_call 167; refine (HP.out _).mono ?_; rintro e w' ⟨rfl, rfl⟩) | (go_at_call 72; refine (HL.out _).mono ?_; rintro e w' ⟨rfl, rfl⟩))
    go_ret
    exact ⟨rfl, (Below.refl _ _).alloc (Nat.le_refl _) _⟩

set_option maxHeartbeats 1000000 in
theorem l3Alu_9 (dd aa i d a : Int) (w : World) (i0 : 0 ≤ i) (i1 : i ≤ 65535) (d0 : 0 ≤ d) (d1 : d ≤ 4294967295) (a0 : 0 ≤ a) (a1 : a ≤ 4294967295) :
    Calls Tryz.prog 87 #[.agg #[.int .i64 9, .int .i64 dd, .int .i64 aa, .int .i64 i], .int .i64 d, .int .i64 a] w fun e w' => e = .returned (.int .i64 (alu 9 i d a)) ∧ Below w.heap.size w w' := by
  have hp := pw15 (a % 16).toNat (by omega)
  have hp0 := pow_pos (a % 16).toNat
  have HP := hide (fun w => l2Power_any (a % 16) (by omega) (by omega) w)
  generalize (2:Int)^(a % 16).toNat = P at *
  rw [show alu 9 i d a = bits .and .i64 d a from rfl]
  by_cases hs : 16 ≤ a % 32
  all_goals
    go_enter Tryz.func87, Tryz.ntmps87
    go_wp2_with (first | (go_at_call 167; refine (HP.out _).mono ?_; rintro e w' ⟨rfl, rfl⟩))
    go_ret
    exact ⟨rfl, (Below.refl _ _).alloc (Nat.le_refl _) _⟩

set_option maxHeartbeats 1000000 in
theorem l3Alu_10 (dd aa i d a : Int) (w : World) (i0 : 0 ≤ i) (i1 : i ≤ 65535) (d0 : 0 ≤ d) (d1 : d ≤ 4294967295) (a0 : 0 ≤ a) (a1 : a ≤ 4294967295) :
    Calls Tryz.prog 87 #[.agg #[.int .i64 10, .int .i64 dd, .int .i64 aa, .int .i64 i], .int .i64 d, .int .i64 a] w fun e w' => e = .returned (.int .i64 (alu 10 i d a)) ∧ Below w.heap.size w w' := by
  have hp := pw15 (a % 16).toNat (by omega)
  have hp0 := pow_pos (a % 16).toNat
  have HP := hide (fun w => l2Power_any (a % 16) (by omega) (by omega) w)
  generalize (2:Int)^(a % 16).toNat = P at *
  rw [show alu 10 i d a = bits .or .i64 d a from rfl]
  by_cases hs : 16 ≤ a % 32
  all_goals
    go_enter Tryz.func87, Tryz.ntmps87
    go_wp2_with (first | (go_at_call 167; refine (HP.out _).mono ?_; rintro e w' ⟨rfl, rfl⟩))
    go_ret
    exact ⟨rfl, (Below.refl _ _).alloc (Nat.le_refl _) _⟩

set_option maxHeartbeats 1000000 in
theorem l3Alu_11 (dd aa i d a : Int) (w : World) (i0 : 0 ≤ i) (i1 : i ≤ 65535) (d0 : 0 ≤ d) (d1 : d ≤ 4294967295) (a0 : 0 ≤ a) (a1 : a ≤ 4294967295) :
    Calls Tryz.prog 87 #[.agg #[.int .i64 11, .int .i64 dd, .int .i64 aa, .int .i64 i], .int .i64 d, .int .i64 a] w fun e w' => e = .returned (.int .i64 (alu 11 i d a)) ∧ Below w.heap.size w w' := by
  have hp := pw15 (a % 16).toNat (by omega)
  have hp0 := pow_pos (a % 16).toNat
  have HP := hide (fun w => l2Power_any (a % 16) (by omega) (by omega) w)
  generalize (2:Int)^(a % 16).toNat = P at *
  rw [show alu 11 i d a = bits .xor .i64 d a from rfl]
  by_cases hs : 16 ≤ a % 32
  all_goals
    go_enter Tryz.func87, Tryz.ntmps87
    go_wp2_with (first | (go_at_call 167; refine (HP.out _).mono ?_; rintro e w' ⟨rfl, rfl⟩))
    go_ret
    exact ⟨rfl, (Below.refl _ _).alloc (Nat.le_refl _) _⟩
end Go.Proofs.YtngdgogjlpjjpadGreat
