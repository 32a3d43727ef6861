import Derived.Test.YthnelonbpbhhbabRegOk
import Derived.Test.YthnelonbpbhhbabMem1
import Derived.Deep.RegionHeld3
namespace Go.Proofs.Ythnelonbpbhhbab
open Go.RowKit
set_option linter.unusedVariables false

/-- THE NUMBER OF ONES. -/
def popc (x : Nat) : Nat := x % 2 + x / 2 % 2 + x / 4 % 2 + x / 8 % 2 + x / 16 % 2 + x / 32 % 2 + x / 64 % 2 + x / 128 % 2

set_option maxRecDepth 100000 in
set_option maxHeartbeats 1000000 in
theorem onesCount8_any (x : Nat) (w : World) (h1 : x < 256) :
    Calls Try.prog 76 #[.int .u8 x] w fun e w' => e = .returned (.int .i64 (popc x)) ∧ w = w' := by
  go_enter Try.func76, Try.ntmps76
  go_wp2
  go_ret
  refine ⟨ret_int ?_, rfl⟩
  clear w
  revert x
  decide +kernel

theorem cv_xor255 : ∀ o : Fin 256, (255 ^^^ (255 - o.val)) = o.val := by decide +kernel
theorem cv_xor (q : Nat) (h : q < 256) : bits BinOp.xor IntKind.u8 IntKind.u8.max (255 - (q : Int)) = (q : Int) := by
  have hm : IntKind.u8.max = 255 := by decide
  rw [hm, u8_xor 255 (255 - (q : Int)) (by omega) (by omega) (by omega) (by omega)]
  have := cv_xor255 ⟨q, h⟩
  simp only at this
  have e : (255:Int).toNat = 255 := rfl
  have e2 : (255 - (q : Int)).toNat = 255 - q := by omega
  rw [e, e2, this]
theorem popc_le : ∀ q, q < 256 → popc q ≤ 8 := by decide +kernel

set_option maxHeartbeats 1000000 in
theorem cvParts_any (b l : Int) (q : Nat) (r x y : Bool) (w : World) (h : q < 256) :
    Calls Try.prog 77 #[.agg #[.int .i64 b, .int .i64 l, .int .i64 (255 - (q : Int)), .bool r, .bool x, .bool y]] w fun e w' => e = .returned (.int .u8 q) ∧ Below w.heap.size w w' := by
  have hx := hide (cv_xor q h)
  have h0 : 0 ≤ 255 - (q : Int) := by omega
  have h1 : 255 - (q : Int) ≤ 255 := by omega
  generalize 255 - (q : Int) = o at *
  go_enter Try.func77, Try.ntmps77
  go_wp2
  go_ret
  exact ⟨ret_int hx.out, (Below.refl _ _).alloc (Nat.le_refl _) _⟩

theorem Blk.six' {w : World} {g : Nat} {a b c d e f : Value} {t : TypeId} (h : Blk w g #[a, b, c, d, e, f] t) :
    w.cell? ⟨g, 0, none⟩ = some a ∧ w.cell? ⟨g, 1, none⟩ = some b ∧ w.cell? ⟨g, 2, none⟩ = some c ∧ w.cell? ⟨g, 3, none⟩ = some d ∧ w.cell? ⟨g, 4, none⟩ = some e ∧ w.cell? ⟨g, 5, none⟩ = some f ∧ ∀ i, w.frozen? ⟨g, i, none⟩ = false :=
  ⟨by rw [h.cell]; rfl, by rw [h.cell]; rfl, by rw [h.cell]; rfl, by rw [h.cell]; rfl, by rw [h.cell]; rfl, by rw [h.cell]; rfl, fun i => h.frozen i⟩
theorem cv_wrap {n : Int} (h0 : -9223372036854775808 ≤ n) (h1 : n ≤ 9223372036854775807) : IntKind.i64.wrap n = n := by
  simp only [IntKind.wrap, IntKind.bits, IntKind.signed]
  simp
  omega

/-- THE NUMBER OF ADDRESSES of a region with the parts q. -/
def cnt (l : Int) (q : Nat) : Int := (popc q : Int) * (2:Int)^(l - 3).toNat

set_option maxHeartbeats 1000000 in
theorem addressCount_any (b l : Int) (q : Nat) (r x y : Bool) (w : World) (h : q < 256) (hl : 5 ≤ l) (hl' : l ≤ 14) :
    Calls Try.prog 42 #[.agg #[.int .i64 b, .int .i64 l, .int .i64 (255 - (q : Int)), .bool r, .bool x, .bool y]] w fun e w' => e = .returned (.int .i64 (cnt l q)) ∧ Below w.heap.size w w' := by
  have hp := popc_le q h
  have hpw := pow_lt (l - 3).toNat (by omega)
  have hpw0 := pow_pos (l - 3).toNat
  have hmul : (popc q : Int) * (2:Int)^(l - 3).toNat ≤ 8 * 1048576 := by
    have h1 : (popc q : Int) * (2:Int)^(l - 3).toNat ≤ 8 * (2:Int)^(l - 3).toNat := Int.mul_le_mul_of_nonneg_right (by omega) (by omega)
    omega
  have hmul0 : 0 ≤ (popc q : Int) * (2:Int)^(l - 3).toNat := Int.mul_nonneg (by omega) (by omega)
  have hw2 : IntKind.i64.wrap (l - 3) = l - 3 := cv_wrap (by omega) (by omega)
  have HC := hide (show cnt l q = (popc q : Int) * (2:Int)^(l - 3).toNat from rfl)
  have kb := Blk.new w #[.int .i64 b, .int .i64 l, .int .i64 (255 - (q : Int)), .bool r, .bool x, .bool y] 30
  have hB0 : Below w.heap.size w (w.alloc (.cells #[.int .i64 b, .int .i64 l, .int .i64 (255 - (q : Int)), .bool r, .bool x, .bool y] 30)) := (Below.refl _ _).alloc (Nat.le_refl _) _
  have HM := hide (And.intro hmul0 hmul)
  clear hmul hmul0
  have HP := hide (onesCount8_any q)
  go_enter Try.func42, Try.ntmps42
  go_wp2
  go_region_held3 (fun w' => w'.cell? ⟨w.heap.size, 0, none⟩ = some (.int .i64 b) ∧ w'.cell? ⟨w.heap.size, 1, none⟩ = some (.int .i64 l) ∧ w'.cell? ⟨w.heap.size, 2, none⟩ = some (.int .i64 (255 - (q : Int))) ∧ w'.cell? ⟨w.heap.size, 3, none⟩ = some (.bool r) ∧ w'.cell? ⟨w.heap.size, 4, none⟩ = some (.bool x) ∧ w'.cell? ⟨w.heap.size, 5, none⟩ = some (.bool y)) (go_keep)
    (first
      | (go_at_call 77; refine (cvParts_any b l q r x y _ h).mono ?_; rintro e w1 ⟨rfl, hb1⟩; obtain ⟨q1, q2, q3, q4, q5, q6, q7⟩ := (Blk.below (by exact kb) hb1).six')
      | (go_at_call 76; refine (HP.out _ h).mono ?_; rintro e w2 ⟨rfl, rfl⟩))
  go_wp2
  go_ret
  refine ⟨ret_int ?_, hB0.drew.trans (hb1.mono (by simp))⟩
  rw [HC.out]
  exact cv_wrap (by have := HM.out; omega) (by have := HM.out; omega)

theorem cv_or : ∀ (q i : Nat), q < 256 → i < 8 → (q ||| 2 ^ i) < 256 := by
  intro q i hq hi
  exact Nat.or_lt_two_pow (n := 8) hq (Nat.pow_lt_pow_right (by omega) hi)
set_option maxHeartbeats 1000000 in
theorem with_any (q i : Nat) (w : World) (h : q < 256) (hi : i < 8) :
    Calls Try.prog 91 #[.int .u8 q, .int .i64 i] w fun e w' => e = .returned (.int .u8 ((q ||| 2 ^ i : Nat) : Int)) ∧ w = w' := by
  go_enter Try.func91, Try.ntmps91
  go_wp2
  go_ret
  refine ⟨ret_int ?_, rfl⟩
  have hp : (2:Nat)^i < 256 := Nat.pow_lt_pow_right (by omega) hi
  have e : (2:Int)^i % 256 = ((2^i : Nat) : Int) := by
    have : ((2^i : Nat) : Int) = (2:Int)^i := by simp
    have := pow_pos i
    omega
  rw [e]
  exact u8_or_nat q (2^i) h hp

/-- IS THE FIRST REGION THE BETTER ONE? -/
def cm (l : Int) (q : Nat) (l' : Int) (q' : Nat) : Bool := decide (cnt l' q' < cnt l q ∨ (cnt l q = cnt l' q' ∧ l < l'))

set_option maxHeartbeats 2000000 in
theorem coversMore_any (b l b' l' : Int) (q q' : Nat) (w : World) (h : q < 256) (h' : q' < 256) (hl : 5 ≤ l) (hl2 : l ≤ 14) (hl' : 5 ≤ l') (hl2' : l' ≤ 14) :
    Calls Try.prog 74 #[.agg #[.int .i64 b, .int .i64 l, .int .i64 (255 - (q : Int)), .bool false, .bool false, .bool false], .agg #[.int .i64 b', .int .i64 l', .int .i64 (255 - (q' : Int)), .bool false, .bool false, .bool false]] w fun e w' => e = .returned (.bool (cm l q l' q')) ∧ Below w.heap.size w w' := by
  have ka := (Blk.new w #[.int .i64 b, .int .i64 l, .int .i64 (255 - (q : Int)), .bool false, .bool false, .bool false] 30).alloc (.cells #[.int .i64 b', .int .i64 l', .int .i64 (255 - (q' : Int)), .bool false, .bool false, .bool false] 30)
  have kb := Blk.new (w.alloc (.cells #[.int .i64 b, .int .i64 l, .int .i64 (255 - (q : Int)), .bool false, .bool false, .bool false] 30)) #[.int .i64 b', .int .i64 l', .int .i64 (255 - (q' : Int)), .bool false, .bool false, .bool false] 30
  simp only [World.size_alloc] at kb
  have hB0 : Below w.heap.size w ((w.alloc (.cells #[.int .i64 b, .int .i64 l, .int .i64 (255 - (q : Int)), .bool false, .bool false, .bool false] 30)).alloc (.cells #[.int .i64 b', .int .i64 l', .int .i64 (255 - (q' : Int)), .bool false, .bool false, .bool false] 30)) := ((Below.refl _ _).alloc (Nat.le_refl _) _).alloc (by simp) _
  have A1 := hide (addressCount_any b l q false false false)
  have A2 := hide (addressCount_any b' l' q' false false false)
  obtain ⟨o, ho⟩ : ∃ o, o = 255 - (q : Int) := ⟨_, rfl⟩
  obtain ⟨o', ho'⟩ : ∃ o', o' = 255 - (q' : Int) := ⟨_, rfl⟩
  have HM := hide (show cm l q l' q' = decide (cnt l' q' < cnt l q ∨ (cnt l q = cnt l' q' ∧ l < l')) from rfl)
  rw [← ho] at A1 ka kb hB0 ⊢
  rw [← ho'] at A2 ka kb hB0 ⊢
  clear ho ho'
  generalize cnt l q = c1 at *
  generalize cnt l' q' = c2 at *
  go_enter Try.func74, Try.ntmps74
  go_wp2
  go_region_held3 (fun w' => w'.cell? ⟨w.heap.size, 0, none⟩ = some (.int .i64 b) ∧ w'.cell? ⟨w.heap.size, 1, none⟩ = some (.int .i64 l) ∧ w'.cell? ⟨w.heap.size, 2, none⟩ = some (.int .i64 o) ∧ w'.cell? ⟨w.heap.size, 3, none⟩ = some (.bool false) ∧ w'.cell? ⟨w.heap.size, 4, none⟩ = some (.bool false) ∧ w'.cell? ⟨w.heap.size, 5, none⟩ = some (.bool false) ∧ w'.cell? ⟨w.heap.size + 1, 0, none⟩ = some (.int .i64 b') ∧ w'.cell? ⟨w.heap.size + 1, 1, none⟩ = some (.int .i64 l') ∧ w'.cell? ⟨w.heap.size + 1, 2, none⟩ = some (.int .i64 o') ∧ w'.cell? ⟨w.heap.size + 1, 3, none⟩ = some (.bool false) ∧ w'.cell? ⟨w.heap.size + 1, 4, none⟩ = some (.bool false) ∧ w'.cell? ⟨w.heap.size + 1, 5, none⟩ = some (.bool false)) (go_keep)
    (first
      | (go_at_call_of 42 (Value.int .i64 l); refine (A1.out _ h hl hl2).mono ?_; rintro e w1 ⟨rfl, hb1⟩; replace hb1 := undrew hb1; obtain ⟨q1, q2, q3, q4, q5, q6, q7⟩ := (ka.below hb1).six'; obtain ⟨p1, p2, p3, p4, p5, p6, p7⟩ := (kb.below hb1).six')
      | (go_at_call_of 42 (Value.int .i64 l'); refine (A2.out _ h' hl' hl2').mono ?_; rintro e w2 ⟨rfl, hb2⟩; replace hb2 := hb1.trans (hb2.mono hb1.size); obtain ⟨q1, q2, q3, q4, q5, q6, q7⟩ := (ka.below hb2).six'; obtain ⟨p1, p2, p3, p4, p5, p6, p7⟩ := (kb.below hb2).six'))
  have ka2 := ka.below hb2
  have kb2 := kb.below hb2
  have hB2 := hB0.trans (hb2.mono hB0.size)
  clear hb1 hb2 ka kb hB0
  by_cases hc : c1 = c2
  · subst hc
    have hne : (c1 != c1) = false := by simp
    have HF := hide (show decide (c1 < c1 ∨ (c1 = c1 ∧ l < l')) = decide (l < l') from by simp)
    obtain ⟨q1, q2, q3, q4, q5, q6, q7⟩ := ka2.six'
    obtain ⟨p1, p2, p3, p4, p5, p6, p7⟩ := kb2.six'
    go_wp2
    go_ret
    exact ⟨ret_bool (by rw [HM.out, HF.out]), hB2⟩
  · have hne : (c1 != c2) = true := by simpa using hc
    have HF := hide (show decide (c2 < c1 ∨ (c1 = c2 ∧ l < l')) = decide (c2 < c1) from by simp [hc])
    clear hc
    obtain ⟨q1, q2, q3, q4, q5, q6, q7⟩ := ka2.six'
    obtain ⟨p1, p2, p3, p4, p5, p6, p7⟩ := kb2.six'
    go_wp2
    go_region_held3 (fun w' => w'.cell? ⟨w.heap.size, 0, none⟩ = some (.int .i64 b) ∧ w'.cell? ⟨w.heap.size, 1, none⟩ = some (.int .i64 l) ∧ w'.cell? ⟨w.heap.size, 2, none⟩ = some (.int .i64 o) ∧ w'.cell? ⟨w.heap.size, 3, none⟩ = some (.bool false) ∧ w'.cell? ⟨w.heap.size, 4, none⟩ = some (.bool false) ∧ w'.cell? ⟨w.heap.size, 5, none⟩ = some (.bool false) ∧ w'.cell? ⟨w.heap.size + 1, 0, none⟩ = some (.int .i64 b') ∧ w'.cell? ⟨w.heap.size + 1, 1, none⟩ = some (.int .i64 l') ∧ w'.cell? ⟨w.heap.size + 1, 2, none⟩ = some (.int .i64 o') ∧ w'.cell? ⟨w.heap.size + 1, 3, none⟩ = some (.bool false) ∧ w'.cell? ⟨w.heap.size + 1, 4, none⟩ = some (.bool false) ∧ w'.cell? ⟨w.heap.size + 1, 5, none⟩ = some (.bool false)) (go_keep)
      (first
        | (go_at_call_of 42 (Value.int .i64 l); refine (A1.out _ h hl hl2).mono ?_; rintro e w3 ⟨rfl, hb1⟩; replace hb1 := undrew hb1; obtain ⟨q1, q2, q3, q4, q5, q6, q7⟩ := (ka2.below hb1).six'; obtain ⟨p1, p2, p3, p4, p5, p6, p7⟩ := (kb2.below hb1).six')
        | (go_at_call_of 42 (Value.int .i64 l'); refine (A2.out _ h' hl' hl2').mono ?_; rintro e w4 ⟨rfl, hb2⟩; replace hb2 := hb1.trans (hb2.mono hb1.size); obtain ⟨q1, q2, q3, q4, q5, q6, q7⟩ := (ka2.below hb2).six'; obtain ⟨p1, p2, p3, p4, p5, p6, p7⟩ := (kb2.below hb2).six'))
    have hB4 := hB2.trans (hb2.mono hB2.size)
    clear hb1 hb2 q1 q2 q3 q4 q5 q6 q7 p1 p2 p3 p4 p5 p6 p7
    go_wp2
    go_ret
    exact ⟨ret_bool (by rw [HM.out, HF.out]), hB4⟩
end Go.Proofs.Ythnelonbpbhhbab
