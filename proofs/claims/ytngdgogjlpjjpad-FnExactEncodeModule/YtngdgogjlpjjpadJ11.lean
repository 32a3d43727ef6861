import Derived.Test.YtngdgogjlpjjpadJ10
import Derived.Test.YtngdgogjlpjjpadJ02
namespace Go.Proofs.Ytngdgogjlpjjpad
open Go.RowKit
set_option linter.unusedVariables false

theorem wraps62 (n : Int) (h₀ : 0 ≤ n) (h₁ : n < 2 ^ 62) : IntKind.i64.wrap n = n := by
  rw [IntKind.wrap_i64]; omega
theorem nat_and_zero (a : Nat) : a &&& 983040 = (a / 65536 % 16) * 65536 := by
  apply Nat.eq_of_testBit_eq
  intro i
  have e1 : (983040 : Nat) = (2 ^ 4 - 1) * 2 ^ 16 := by decide
  have e2 : (a / 65536 % 16) * 65536 = (a / 2 ^ 16 % 2 ^ 4) * 2 ^ 16 := by rfl
  rw [e2, e1, Nat.testBit_and, Nat.testBit_mul_two_pow, Nat.testBit_mul_two_pow, Nat.testBit_mod_two_pow, Nat.testBit_div_two_pow, Nat.testBit_two_pow_sub_one]
  by_cases h : 16 ≤ i
  · have : i - 16 + 16 = i := by omega
    simp [h, this, Bool.and_comm]
  · simp [h]
theorem and_zero (x : Int) (h₀ : 0 ≤ x) (h₁ : x ≤ 4294967295) : bits .and .i64 x 983040 = (x / 65536 % 16) * 65536 := by
  obtain ⟨a, rfl⟩ := Int.eq_ofNat_of_zero_le h₀
  have := (bits_nat .i64 62 (by decide) wraps62 a 983040 (by omega) (by omega)).1
  rw [show (983040 : Int) = ((983040 : Nat) : Int) from rfl, this, nat_and_zero]
  simp
theorem and_7 (x : Int) (h₀ : 0 ≤ x) (h₁ : x ≤ 4294967295) : bits .and .i64 x 7 = x % 8 := bits_mask .i64 62 (by decide) wraps62 3 (by decide) x h₀ (by omega)
theorem and_imm (x : Int) (h₀ : 0 ≤ x) (h₁ : x ≤ 4294967295) : bits .and .i64 x 65535 = x % 65536 := bits_mask .i64 62 (by decide) wraps62 16 (by decide) x h₀ (by omega)
theorem join62 (i : Nat) (x y : Int) (hx₀ : 0 ≤ x) (hx : x % 2 ^ i = 0) (hx₁ : x < 2 ^ 62) (hy₀ : 0 ≤ y) (hy : y < 2 ^ i) (hy₁ : y < 2 ^ 62) : bits .or .i64 x y = x + y :=
  bits_join .i64 62 (by decide) wraps62 i x y hx₀ hx hx₁ hy₀ hy hy₁

set_option maxHeartbeats 400000 in
theorem isWord_any (v : Int) (w : World) :
    Calls Try.prog 100 #[.int .i64 v] w fun e w' => e = .returned (.bool (decide (0 ≤ v ∧ v ≤ 4294967295))) ∧ w = w' := by
  go_enter Try.func100, Try.ntmps100
  go_wp2
  all_goals
    go_ret
    refine ⟨ret_bool ?_, rfl⟩
    rw [Bool.eq_iff_iff]
    simp
    try omega
set_option maxHeartbeats 400000 in
theorem isUpTo_any (v m : Int) (w : World) :
    Calls Try.prog 34 #[.int .i64 v, .int .i64 m] w fun e w' => e = .returned (.bool (decide (0 ≤ v ∧ v ≤ m))) ∧ w = w' := by
  go_enter Try.func34, Try.ntmps34
  go_wp2
  all_goals
    go_ret
    refine ⟨ret_bool ?_, rfl⟩
    rw [Bool.eq_iff_iff]
    simp
    try omega

theorem Blk.four' {w : World} {g : Nat} {a b c d : Value} {t : TypeId} (h : Blk w g #[a, b, c, d] t) :
    w.cell? ⟨g, 0, none⟩ = some a ∧ w.cell? ⟨g, 1, none⟩ = some b ∧ w.cell? ⟨g, 2, none⟩ = some c ∧ w.cell? ⟨g, 3, none⟩ = some d ∧ ∀ i, w.frozen? ⟨g, i, none⟩ = false :=
  ⟨by rw [h.cell]; rfl, by rw [h.cell]; rfl, by rw [h.cell]; rfl, by rw [h.cell]; rfl, fun i => h.frozen i⟩
theorem ins_set {w2 : World} {g : Nat} {x y z u : Value} (hz : Blk w2 g #[x, y, z, u] 129) (o d a i : Int) :
    Blk ((((w2.setCell ⟨g, 0, none⟩ (.int .i64 o)).setCell ⟨g, 1, none⟩ (.int .i64 d)).setCell ⟨g, 2, none⟩ (.int .i64 a)).setCell ⟨g, 3, none⟩ (.int .i64 i)) g #[.int .i64 o, .int .i64 d, .int .i64 a, .int .i64 i] 129 :=
  Blk.set (Blk.set (Blk.set (Blk.set hz 0 _) 1 _) 2 _) 3 _
theorem ins_below {B : Nat} {w w2 : World} {g : Nat} (hg : B ≤ g) (h : Below B w w2) (o d a i : Int) :
    Below B w ((((w2.setCell ⟨g, 0, none⟩ (.int .i64 o)).setCell ⟨g, 1, none⟩ (.int .i64 d)).setCell ⟨g, 2, none⟩ (.int .i64 a)).setCell ⟨g, 3, none⟩ (.int .i64 i)) :=
  (((h.setCell hg _).setCell hg _).setCell hg _).setCell hg _
/-- an instruction and a bool are returned -/
def InsPost (w : World) (o d a i : Int) (b : Bool) (e : Ending) (w' : World) : Prop := e = .returned (.tuple #[.agg #[.int .i64 o, .int .i64 d, .int .i64 a, .int .i64 i], .bool b]) ∧ Below w.heap.size w w'
theorem ret_ins {op d a i d' a' i' : Int} {b : Bool} (h1 : d = d') (h2 : a = a') (h3 : i = i') : Ending.returned (.tuple #[.agg #[.int .i64 op, .int .i64 d, .int .i64 a, .int .i64 i], .bool b]) = .returned (.tuple #[.agg #[.int .i64 op, .int .i64 d', .int .i64 a', .int .i64 i'], .bool b]) := by rw [h1, h2, h3]

end Go.Proofs.Ytngdgogjlpjjpad

namespace Go.Proofs.Ytngdgogjlpjjpad
open Go.RowKit
set_option linter.unusedVariables false
set_option linter.unusedSimpArgs false
set_option maxRecDepth 100000

/-- ALL ARE WORDS. -/
def wds (zs : List Int) : Bool := zs.all fun z => decide (0 ≤ z ∧ z ≤ 4294967295)
theorem wds_bad (zs : List Int) (k : Nat) (hk : k < zs.length) (h : ¬ (0 ≤ zs.getD k 0 ∧ zs.getD k 0 ≤ 4294967295)) : wds zs = false := by
  unfold wds
  rw [List.all_eq_false]
  refine ⟨zs[k], List.getElem_mem _, ?_⟩
  have : zs.getD k 0 = zs[k] := by simp [List.getD_eq_getElem?_getD, hk]
  rw [this] at h
  simpa using h
theorem wds_good (zs : List Int) (h : ∀ j, j < zs.length → 0 ≤ zs.getD j 0 ∧ zs.getD j 0 ≤ 4294967295) : wds zs = true := by
  unfold wds
  rw [List.all_eq_true]
  intro z hz
  obtain ⟨i, hi, rfl⟩ := List.getElem_of_mem hz
  have := h i hi
  rw [show zs.getD i 0 = zs[i] by simp [List.getD_eq_getElem?_getD, hi]] at this
  simpa using this

set_option maxHeartbeats 1000000 in
theorem l4Words_any (a : Option Addr) (n cap : Nat) (zs : List Int) (w : World) (h : IS w a n cap zs) :
    Calls Try.prog 94 #[.slice a n cap] w fun e w' => e = .returned (.bool (wds zs)) ∧ w = w' := by
  have hl := h.1
  have hmx := h.2.1
  unfold maxLen at hmx
  go_enter Try.func94, Try.ntmps94
  go_wp2_with fail
  go_loop [3] (fun i => ∃ k : Nat, k ≤ n ∧ i = .int .i64 k ∧ Hid (∀ j, j < k → 0 ≤ zs.getD j 0 ∧ zs.getD j 0 ≤ 4294967295)) (fun i => n - (intOf i).toNat)
  case atStart => exact ⟨0, Nat.zero_le _, rfl, hide (fun j hj => by omega)⟩
  case round =>
    obtain ⟨k, hk, rfl, HJ⟩ := hrel
    by_cases hlt : k < n
    · have hlt' : (k : Int) < (n : Int) := by omega
      obtain ⟨b, off, rfl⟩ := h.addr (by omega)
      have hck := h.at k hlt
      have HZ := hide (wds_bad zs k (by omega))
      have HG := hide (show 0 ≤ zs.getD k 0 ∧ zs.getD k 0 ≤ 4294967295 → ∀ j, j < k + 1 → 0 ≤ zs.getD j 0 ∧ zs.getD j 0 ≤ 4294967295 from fun h j hj => by
        by_cases e : j = k
        · subst e; exact h
        · exact HJ.out j (by omega))
      generalize zs.getD k 0 = z at *
      by_cases c1 : z < 0
      · go_wp2
        go_ret
        exact ⟨ret_bool (HZ.out (by omega)).symm, rfl⟩
      · by_cases c2 : 4294967295 < z
        · go_wp2
          go_ret
          exact ⟨ret_bool (HZ.out (by omega)).symm, rfl⟩
        · go_wp2
          go_round
          case rel => exact ⟨k + 1, by omega, by go_num, hide (HG.out (by omega))⟩
          case measure => simp [intOf]; omega
    · have HE := hide (wds_good zs (fun j hj => HJ.out j (by omega)))
      go_wp2
      go_ret
      exact ⟨ret_bool HE.out.symm, rfl⟩

set_option maxHeartbeats 1000000 in
theorem areWords_any (a : Option Addr) (n cap : Nat) (zs : List Int) (w : World) (h : IS w a n cap zs) :
    Calls Try.prog 82 #[.slice a n cap] w fun e w' => e = .returned (.bool (wds zs)) ∧ w = w' := by
  have hl := h.1
  have hmx := h.2.1
  unfold maxLen at hmx
  have HIW := hide (fun v w => isWord_any v w)
  go_enter Try.func82, Try.ntmps82
  go_wp2_with fail
  go_loop [7] (fun i => ∃ k : Nat, k ≤ n ∧ i = .int .i64 k ∧ Hid (∀ j, j < k → 0 ≤ zs.getD j 0 ∧ zs.getD j 0 ≤ 4294967295)) (fun i => n - (intOf i).toNat)
  case atStart => exact ⟨0, Nat.zero_le _, rfl, hide (fun j hj => by omega)⟩
  case round =>
    obtain ⟨k, hk, rfl, HJ⟩ := hrel
    by_cases hlt : k < n
    · have hlt' : (k : Int) < (n : Int) := by omega
      obtain ⟨b, off, rfl⟩ := h.addr (by omega)
      have hck := h.at k hlt
      have HZ := hide (wds_bad zs k (by omega))
      have HG := hide (show 0 ≤ zs.getD k 0 ∧ zs.getD k 0 ≤ 4294967295 → ∀ j, j < k + 1 → 0 ≤ zs.getD j 0 ∧ zs.getD j 0 ≤ 4294967295 from fun h j hj => by
        by_cases e : j = k
        · subst e; exact h
        · exact HJ.out j (by omega))
      generalize zs.getD k 0 = z at *
      have HW := hide (HIW.out z)
      by_cases c1 : 0 ≤ z ∧ z ≤ 4294967295
      · rw [decide_eq_true c1] at HW
        go_wp2_with (go_at_call 100; refine (HW.out _).mono ?_; rintro e w1 ⟨rfl, rfl⟩)
        go_round
        case rel => exact ⟨k + 1, by omega, by go_num, hide (HG.out c1)⟩
        case measure => simp [intOf]; omega
      · rw [decide_eq_false c1] at HW
        go_wp2_with (go_at_call 100; refine (HW.out _).mono ?_; rintro e w1 ⟨rfl, rfl⟩)
        go_ret
        exact ⟨ret_bool (HZ.out c1).symm, rfl⟩
    · have HE := hide (wds_good zs (fun j hj => HJ.out j (by omega)))
      go_wp2
      go_ret
      exact ⟨ret_bool HE.out.symm, rfl⟩
end Go.Proofs.Ytngdgogjlpjjpad
