import Derived.Test.YthnelonbpbhhbabRegOk
import Derived.Test.YthnelonbpbhhbabMem5
import Derived.Deep.RegionHeld3
namespace Go.Proofs.Ythnelonbpbhhbab
open Go.RowKit
set_option linter.unusedVariables false

/-- DOES A VALID REGION HAVE AN ADDRESS? -/
def hs (b l o a : Int) : Bool := decide (b ≤ a ∧ a < b + (2:Int)^l.toNat ∧ (o / (2:Int)^((a - b) / ((2:Int)^l.toNat / 8)).toNat) % 2 = 0)

theorem rok_parts {b l o : Int} (h : rok b l o = true) : 5 ≤ l ∧ l ≤ 14 ∧ 0 ≤ o ∧ o ≤ 255 ∧ (8 ≤ l ∨ o = 0) ∧ 0 ≤ b ∧ b ≤ 262144 - (2:Int)^l.toNat := by
  simp [rok] at h
  omega
theorem pow8 (l : Int) (h : 3 ≤ l) : (2:Int)^l.toNat = 8 * (2:Int)^(l - 3).toNat := by
  obtain ⟨k, hk⟩ := Int.eq_ofNat_of_zero_le (show 0 ≤ l - 3 by omega)
  have e : l.toNat = k + 3 := by omega
  have e2 : (l - 3).toNat = k := by omega
  rw [e, e2, Int.pow_add]
  omega
theorem div_part (d q : Int) (hq : 0 < q) (h0 : 0 ≤ d) (h : d < 8 * q) : 0 ≤ d / q ∧ d / q ≤ 7 := by
  refine ⟨Int.ediv_nonneg h0 (by omega), ?_⟩
  have := Int.ediv_lt_of_lt_mul hq h
  omega

set_option maxHeartbeats 1000000 in
theorem l2Has_any (b l o a : Int) (r x y : Bool) (w : World) (h : rok b l o = true) :
    Calls Try.prog 44 #[.agg #[.int .i64 b, .int .i64 l, .int .i64 o, .bool r, .bool x, .bool y], .int .i64 a] w fun e w' => e = .returned (.bool (hs b l o a)) ∧ Below w.heap.size w w' := by
  obtain ⟨h1, h2, h3, h4, h5, h6, h7⟩ := rok_parts h
  have hp := pow_lt l.toNat (by omega)
  have hp0 := pow_pos l.toNat
  have hp8 := pow8 l (by omega)
  have hq0 := pow_pos (l - 3).toNat
  have hq : (2:Int)^l.toNat / 8 = (2:Int)^(l - 3).toNat := by omega
  by_cases ka : a < b
  · have hf : Hid (hs b l o a = false) := by show _ = _; unfold hs; simp; omega
    clear h h5 hp8 hq
    go_enter Try.func44, Try.ntmps44
    go_wp2_with (go_at_call 43; refine (l2Power_any _ (by omega) (by omega) _).mono ?_; rintro e w' ⟨rfl, rfl⟩)
    go_ret
    exact ⟨ret_bool hf.out.symm, (Below.refl _ _).alloc (Nat.le_refl _) _⟩
  · by_cases kb : b + (2:Int)^l.toNat ≤ a
    · have hf : Hid (hs b l o a = false) := by show _ = _; unfold hs; simp; omega
      clear h h5 hp8 hq
      go_enter Try.func44, Try.ntmps44
      go_wp2_with (go_at_call 43; refine (l2Power_any _ (by omega) (by omega) _).mono ?_; rintro e w' ⟨rfl, rfl⟩)
      go_ret
      exact ⟨ret_bool hf.out.symm, (Below.refl _ _).alloc (Nat.le_refl _) _⟩
    · by_cases k8 : l < 8
      · have hf : Hid (hs b l o a = true) := by
          have ho : o = 0 := by omega
          subst ho
          show _ = _; unfold hs; simp; omega
        clear h h5 hp8 hq
        go_enter Try.func44, Try.ntmps44
        go_wp2_with (go_at_call 43; refine (l2Power_any _ (by omega) (by omega) _).mono ?_; rintro e w' ⟨rfl, rfl⟩)
        go_ret
        exact ⟨ret_bool hf.out.symm, (Below.refl _ _).alloc (Nat.le_refl _) _⟩
      · have hd := div_part (a - b) ((2:Int)^(l - 3).toNat) hq0 (by omega) (by omega)
        have hf : Hid (hs b l o a = ((o / (2:Int)^((a - b) / ((2:Int)^l.toNat / 8)).toNat) % 2 == 0)) := by
          show _ = _; unfold hs; rw [Bool.eq_iff_iff]; simp; omega
        rw [← hq] at hd
        have hq1 : 0 < (2:Int)^l.toNat / 8 := by omega
        have hpp := pow_pos ((a - b) / ((2:Int)^l.toNat / 8)).toNat
        have hpl := pow_lt ((a - b) / ((2:Int)^l.toNat / 8)).toNat (by omega)
        clear h h5 hp8 hq hq0
        obtain ⟨hd0, hd7⟩ := hd
        go_enter Try.func44, Try.ntmps44
        go_wp2_with (go_at_call 43; refine (l2Power_any _ (by omega) (by omega) _).mono ?_; rintro e w' ⟨rfl, rfl⟩)
        go_quiet ((go_at_call 43; exact Calls.quiet_of_same (l2Power_any _ (by omega) (by omega) _)))
        go_wp2
        go_ret
        rw [Int.tmod_eq_emod_of_nonneg (Int.ediv_nonneg h3 (by omega))]
        exact ⟨ret_bool hf.out.symm, below_drewN ((Below.refl _ _).alloc (Nat.le_refl _) _) _⟩

theorem xor255 : ∀ o : Fin 256, (255 ^^^ o.val) = 255 - o.val := by decide +kernel
theorem xor_u8 (o : Int) (h0 : 0 ≤ o) (h1 : o ≤ 255) : bits BinOp.xor IntKind.u8 IntKind.u8.max o = 255 - o := by
  have hm : IntKind.u8.max = 255 := by decide
  rw [hm, u8_xor 255 o (by omega) (by omega) h0 (by omega)]
  have := xor255 ⟨o.toNat, by omega⟩
  simp only at this
  have e : (255:Int).toNat = 255 := rfl
  rw [e, this]
  omega
theorem and1_u8 (t : Int) (h0 : 0 ≤ t) (h1 : t ≤ 255) : bits BinOp.and IntKind.u8 t 1 = t % 2 := by
  rw [u8_and t 1 h0 (by omega) (by omega) (by omega)]
  have e : (1:Int).toNat = 1 := rfl
  rw [e, Nat.and_one_is_mod]
  omega

set_option maxHeartbeats 1000000 in
theorem partsOf_any (b l o : Int) (r x y : Bool) (w : World) (h0 : 0 ≤ o) (h1 : o ≤ 255) :
    Calls Try.prog 77 #[.agg #[.int .i64 b, .int .i64 l, .int .i64 o, .bool r, .bool x, .bool y]] w fun e w' => e = .returned (.int .u8 (255 - o)) ∧ Below w.heap.size w w' := by
  have hx := hide (xor_u8 o h0 h1)
  go_enter Try.func77, Try.ntmps77
  go_wp2
  go_ret
  exact ⟨ret_int hx.out, (Below.refl _ _).alloc (Nat.le_refl _) _⟩

set_option maxHeartbeats 1000000 in
theorem has_any (s i : Int) (w : World) (h0 : 0 ≤ s) (h1 : s ≤ 255) (h2 : 0 ≤ i) (h3 : i ≤ 7) :
    Calls Try.prog 93 #[.int .u8 s, .int .i64 i] w fun e w' => e = .returned (.bool ((s / (2:Int)^i.toNat) % 2 == 1)) ∧ w = w' := by
  have hq : 0 ≤ s / (2:Int)^i.toNat ∧ s / (2:Int)^i.toNat ≤ 255 := by
    have hp := pow_pos i.toNat
    exact ⟨Int.ediv_nonneg h0 (by omega), Int.le_trans (Int.ediv_le_self _ h0) h1⟩
  have hx := hide (and1_u8 (s / (2:Int)^i.toNat) hq.1 hq.2)
  clear hq
  go_enter Try.func93, Try.ntmps93
  go_wp2
  go_ret
  exact ⟨ret_bool (by rw [hx.out]), rfl⟩

theorem bit_flip : ∀ (o : Fin 256) (i : Fin 8), ((255 - o.val) / 2 ^ i.val % 2 == 1) = (o.val / 2 ^ i.val % 2 == 0) := by decide +kernel
theorem flip_int (o i : Int) (h0 : 0 ≤ o) (h1 : o ≤ 255) (h2 : 0 ≤ i) (h3 : i ≤ 7) : ((255 - o) / (2:Int)^i.toNat % 2 == 1) = (o / (2:Int)^i.toNat % 2 == 0) := by
  obtain ⟨a, rfl⟩ := Int.eq_ofNat_of_zero_le h0
  obtain ⟨k, rfl⟩ := Int.eq_ofNat_of_zero_le h2
  have := bit_flip ⟨a, by omega⟩ ⟨k, by omega⟩
  simp only at this
  have e1 : (255 - (a:Int)) = ((255 - a : Nat) : Int) := by omega
  have e2 : (2:Int)^((k:Int).toNat) = ((2^k : Nat) : Int) := by simp
  rw [e1, e2]
  rw [Bool.eq_iff_iff] at this ⊢
  simp only [beq_iff_eq] at this ⊢
  omega

theorem Blk.six {w : World} {g : Nat} {a b c d e f : Value} {t : TypeId} (h : Blk w g #[a, b, c, d, e, f] t) :
    w.cell? ⟨g, 0, none⟩ = some a ∧ w.cell? ⟨g, 1, none⟩ = some b ∧ w.cell? ⟨g, 2, none⟩ = some c ∧ w.cell? ⟨g, 3, none⟩ = some d ∧ w.cell? ⟨g, 4, none⟩ = some e ∧ w.cell? ⟨g, 5, none⟩ = some f ∧ ∀ i, w.frozen? ⟨g, i, none⟩ = false :=
  ⟨by rw [h.cell]; rfl, by rw [h.cell]; rfl, by rw [h.cell]; rfl, by rw [h.cell]; rfl, by rw [h.cell]; rfl, by rw [h.cell]; rfl, fun i => h.frozen i⟩

theorem wrap_i64 {n : Int} (h0 : -9223372036854775808 ≤ n) (h1 : n ≤ 9223372036854775807) : IntKind.i64.wrap n = n := by
  simp only [IntKind.wrap, IntKind.bits, IntKind.signed]
  simp
  omega

set_option maxHeartbeats 1000000 in
theorem regionHas_any (b l o a : Int) (r x y : Bool) (w : World) (h : rok b l o = true) (ha : -9223372036854775808 ≤ a ∧ a ≤ 9223372036854775807) :
    Calls Try.prog 78 #[.agg #[.int .i64 b, .int .i64 l, .int .i64 o, .bool r, .bool x, .bool y], .int .i64 a] w fun e w' => e = .returned (.bool (hs b l o a)) ∧ Below w.heap.size w w' := by
  obtain ⟨h1, h2, h3, h4, h5, h6, h7⟩ := rok_parts h
  obtain ⟨ha0, ha1⟩ := ha
  have hp := pow_lt l.toNat (by omega)
  have hp0 := pow_pos l.toNat
  have hp8 := pow8 l (by omega)
  have hq0 := pow_pos (l - 3).toNat
  have hq : (2:Int)^l.toNat / 8 = (2:Int)^(l - 3).toNat := by omega
  by_cases ka : a < b
  · have hf : Hid (hs b l o a = false) := by show _ = _; unfold hs; simp; omega
    clear h h5 hp8 hq
    have hd : decide (a < b) = true := by simpa using ka
    go_enter Try.func78, Try.ntmps78
    go_wp2
    go_quiet (fail)
    go_wp2
    go_ret
    exact ⟨ret_bool hf.out.symm, below_drewN ((Below.refl _ _).alloc (Nat.le_refl _) _) _⟩
  · have hd : decide (a < b) = false := by simpa using ka
    by_cases kb : (2:Int)^l.toNat ≤ a - b
    · have hf : Hid (hs b l o a = false) := by show _ = _; unfold hs; simp; omega
      clear h h5 hp8 hq
      go_enter Try.func78, Try.ntmps78
      go_wp2
      go_quiet (fail)
      go_wp2
      go_ret
      exact ⟨ret_bool hf.out.symm, below_drewN ((Below.refl _ _).alloc (Nat.le_refl _) _) _⟩
    · have hdv := div_part (a - b) ((2:Int)^(l - 3).toNat) hq0 (by omega) (by omega)
      have hf : Hid (hs b l o a = (((255 - o) / (2:Int)^((a - b) / ((2:Int)^(l-3).toNat)).toNat) % 2 == 1)) := by
        show _ = _
        rw [flip_int o _ h3 h4 hdv.1 hdv.2, ← hq]
        unfold hs; rw [Bool.eq_iff_iff]; simp; omega
      clear h h5 hp8 hq
      obtain ⟨hd0, hd7⟩ := hdv
      go_enter Try.func78, Try.ntmps78
      go_wp2
      go_quiet (fail)
      go_wp2_with fail
      have kb := Blk.new w #[.int .i64 b, .int .i64 l, .int .i64 o, .bool r, .bool x, .bool y] 30
      have hB0 : Below w.heap.size w (w.alloc (.cells #[.int .i64 b, .int .i64 l, .int .i64 o, .bool r, .bool x, .bool y] 30)) := (Below.refl _ _).alloc (Nat.le_refl _) _
      have hw1 : IntKind.i64.wrap (a - b) = a - b := wrap_i64 (by omega) (by omega)
      have hw2 : IntKind.i64.wrap (l - 3) = l - 3 := wrap_i64 (by omega) (by omega)
      have hsh : Op.shift .shr .i64 (a - b) .i64 (l - 3) = pure (.int .i64 ((a - b) / (2:Int)^(l-3).toNat)) := by
        rw [shift_shr_any _ _ _ _ (by omega), Nat.min_eq_left (by simp [IntKind.bits]; omega)]
      go_region_held3 (fun w' => w'.cell? ⟨w.heap.size, 0, none⟩ = some (.int .i64 b) ∧ w'.cell? ⟨w.heap.size, 1, none⟩ = some (.int .i64 l) ∧ w'.cell? ⟨w.heap.size, 2, none⟩ = some (.int .i64 o) ∧ w'.cell? ⟨w.heap.size, 3, none⟩ = some (.bool r) ∧ w'.cell? ⟨w.heap.size, 4, none⟩ = some (.bool x) ∧ w'.cell? ⟨w.heap.size, 5, none⟩ = some (.bool y)) (go_keep)
        (first
          | (go_at_call 77; refine (partsOf_any b l o r x y _ h3 h4).mono ?_; rintro e w1 ⟨rfl, hb1⟩; obtain ⟨q1, q2, q3, q4, q5, q6, q7⟩ := (Blk.below (by exact kb) hb1).six)
          | (go_at_call 93; refine (has_any _ _ _ ?_ ?_ ?_ ?_).mono ?_; omega; omega; omega; omega; rintro e w2 ⟨rfl, rfl⟩))
      go_wp2
      go_ret
      exact ⟨ret_bool hf.out.symm, (below_drewN hB0 _).trans (hb1.mono (by simp))⟩

/-- WHAT A REGION LETS: 1: Read, 2: Write, 3: Exec. -/
def lets (r x y : Bool) (k : Int) : Bool := if k = 1 then r else if k = 2 then x else if k = 3 then y else false

set_option maxHeartbeats 1000000 in
theorem l2Lets_any (b l o k : Int) (r x y : Bool) (w : World) (hk : k = 1 ∨ k = 2 ∨ k = 3) :
    Calls Try.prog 84 #[.agg #[.int .i64 b, .int .i64 l, .int .i64 o, .bool r, .bool x, .bool y], .int .i64 k] w fun e w' => e = .returned (.bool (lets r x y k)) ∧ Below w.heap.size w w' := by
  rcases hk with rfl | rfl | rfl
  all_goals
    go_enter Try.func84, Try.ntmps84
    go_wp2
    go_ret
    exact ⟨rfl, (Below.refl _ _).alloc (Nat.le_refl _) _⟩

set_option maxHeartbeats 1000000 in
theorem regionAllows_any (b l o k : Int) (r x y : Bool) (w : World) :
    Calls Try.prog 79 #[.agg #[.int .i64 b, .int .i64 l, .int .i64 o, .bool r, .bool x, .bool y], .int .i64 k] w fun e w' => e = .returned (.bool (lets r x y k)) ∧ Below w.heap.size w w' := by
  by_cases h1 : k = 1
  · subst h1
    go_enter Try.func79, Try.ntmps79
    go_wp2
    go_ret
    exact ⟨rfl, (Below.refl _ _).alloc (Nat.le_refl _) _⟩
  · by_cases h2 : k = 2
    · subst h2
      go_enter Try.func79, Try.ntmps79
      go_wp2
      go_ret
      exact ⟨rfl, (Below.refl _ _).alloc (Nat.le_refl _) _⟩
    · by_cases h3 : k = 3
      · subst h3
        go_enter Try.func79, Try.ntmps79
        go_wp2
        go_ret
        exact ⟨rfl, (Below.refl _ _).alloc (Nat.le_refl _) _⟩
      · have hf : Hid (lets r x y k = false) := by show _ = _; simp [lets, h1, h2, h3]
        have g1 : (k == 1) = false := by simpa using h1
        have g2 : (k == 2) = false := by simpa using h2
        have g3 : (k == 3) = false := by simpa using h3
        clear h1 h2 h3
        go_enter Try.func79, Try.ntmps79
        go_wp2
        go_ret
        exact ⟨ret_bool hf.out.symm, (Below.refl _ _).alloc (Nat.le_refl _) _⟩
end Go.Proofs.Ythnelonbpbhhbab
