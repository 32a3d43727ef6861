import Derived.Test.YthnelonbpbhhbabSt1
import Derived.Test.YthnelonbpbhhbabAl1
namespace Go.Proofs.Ythnelonbpbhhbab
open Go.RowKit
set_option linter.unusedVariables false
set_option maxRecDepth 100000

/-- the state of Stretch at address x -/
def stF (a x : Int) : Int := if x ≤ a then -1 else a
def stC (a c x : Int) : Int := if x ≤ a then 0 else min (x - a) c

set_option maxHeartbeats 2000000 in
theorem stretch_any (b l o a c : Int) (r x y : Bool) (w : World) (hok : rok b l o = true) (hc : 32 ≤ c) (hc32 : c % 32 = 0) (ha32 : a % 32 = 0) (ha0 : 0 ≤ a) (hh : ∀ z, hs b l o z = decide (a ≤ z ∧ z < a + c)) :
    Calls Try.prog 13 #[.agg #[.int .i64 b, .int .i64 l, .int .i64 o, .bool r, .bool x, .bool y]] w fun e w' => e = .returned (.tuple #[.int .i64 a, .int .i64 c]) ∧ Below w.heap.size w w' := by
  obtain ⟨h1, h2, h3, h4, h5, h6, h7⟩ := rok_parts hok
  have kb := Blk.new w #[.int .i64 b, .int .i64 l, .int .i64 o, .bool r, .bool x, .bool y] 30
  have hB0 : Below w.heap.size w (w.alloc (.cells #[.int .i64 b, .int .i64 l, .int .i64 o, .bool r, .bool x, .bool y] 30)) := (Below.refl _ _).alloc (Nat.le_refl _) _
  obtain ⟨N, hN⟩ : ∃ N, (2:Int)^l.toNat = N := ⟨_, rfl⟩
  have hbN : b % 32 = 0 ∧ N % 32 = 0 ∧ 32 ≤ N ∧ N ≤ 16384 := by
    have hr := hok
    unfold rok at hr
    simp at hr
    obtain ⟨_, _, _, _, _, _, _, hb⟩ := hr
    have hl : l = 5 ∨ l = 6 ∨ l = 7 ∨ l = 8 ∨ l = 9 ∨ l = 10 ∨ l = 11 ∨ l = 12 ∨ l = 13 ∨ l = 14 := by omega
    rcases hl with rfl | rfl | rfl | rfl | rfl | rfl | rfl | rfl | rfl | rfl <;> (simp at hN hb; subst hN; omega)
  have hin : b ≤ a ∧ a + c ≤ b + N := by
    have e1 := hh a
    have e2 := hh (a + c - 1)
    rw [decide_eq_true (by omega)] at e1 e2
    unfold hs at e1 e2
    rw [hN] at e1 e2
    simp at e1 e2
    omega
  rw [hN] at h7
  have HP := hide (fun w => l2Power_any l (by omega) (by omega) w)
  rw [hN] at HP
  have HH := hide (fun z w => l2Has_any b l o z r x y w hok)
  have HS := hide hh
  obtain ⟨n1, n2, n3, n4⟩ := hbN
  obtain ⟨i1, i2⟩ := hin
  clear hN hok hh
  go_enter Try.func13, Try.ntmps13
  go_wp2_with (go_at_call 43; refine (HP.out _).mono ?_; rintro e w' ⟨rfl, rfl⟩)
  go_loopw [6, 7, 8] (fun f cn z wr => ∃ m : Nat, 32 * (m : Int) ≤ N ∧ z = .int .i64 (b + 32 * (m : Int)) ∧ f = .int .i64 (stF a (b + 32 * (m : Int))) ∧ cn = .int .i64 (stC a c (b + 32 * (m : Int))) ∧ Blk wr w.heap.size #[.int .i64 b, .int .i64 l, .int .i64 o, .bool r, .bool x, .bool y] 30 ∧ Below w.heap.size w wr) (fun _ _ z _ => (b + N - intOf z).toNat)
  case atStart => exact ⟨0, by omega, by simp, by simp [stF, i1], by simp [stC, i1], kb, hB0⟩
  case round =>
    obtain ⟨m, hm, rfl, rfl, rfl, hk, hB⟩ := hrel
    clear kb hB0
    obtain ⟨q1, q2, q3, q4, q5, q6, q7⟩ := hk.six'
    obtain ⟨z, hz⟩ : ∃ z : Int, z = b + 32 * (m : Int) := ⟨_, rfl⟩
    rw [← hz]
    have HZ := hide hz
    have z0 : b ≤ z := by omega
    have z1 : z ≤ b + N := by omega
    have z32 : z % 32 = 0 := by omega
    have hm0 : Hid ((m : Int) = (z - b) / 32) := by show _ = _; omega
    clear hz
    by_cases hlt : z < b + N
    · have HX := hide (HS.out z)
      have HHz := hide (fun w => HH.out z w)
      rw [HX.out] at HHz
      clear HX
      by_cases h_in : a ≤ z ∧ z < a + c
      · rw [decide_eq_true h_in] at HHz
        obtain ⟨u1, u2⟩ := h_in
        have eC : Hid (stC a c (z + 32) = z + 32 - a) := by show _ = _; unfold stC; rw [if_neg (by omega)]; omega
        have eF : Hid (stF a (z + 32) = a) := by show _ = _; unfold stF; rw [if_neg (by omega)]
        by_cases hza : z = a
        · subst hza
          have e1 : stF z z = -1 := by unfold stF; rw [if_pos (by omega)]
          have e2 : stC z c z = 0 := by unfold stC; rw [if_pos (by omega)]
          rw [e1, e2]
          clear e1 e2
          have eC' : Hid (stC z c (z + 32) = 32) := by show _ = _; rw [eC.out]; omega
          clear eC
          have hne : (z != z) = false := by simp
          go_wp2_with fail
          refine (HHz.out _).mono ?_
          rintro e w1 ⟨rfl, hb1⟩
          have hk1 := hk.below hb1
          have hB1 := hB.trans (hb1.mono hB.size)
          go_wp2
          go_roundw
          case rel => exact ⟨m + 1, by have := HZ.out; omega, by rw [show b + 32 * ((m + 1 : Nat) : Int) = z + 32 from by have := HZ.out; omega], by rw [show b + 32 * ((m + 1 : Nat) : Int) = z + 32 from by have := HZ.out; omega]; rw [eF.out], by rw [show b + 32 * ((m + 1 : Nat) : Int) = z + 32 from by have := HZ.out; omega]; rw [eC'.out], hk1, hB1⟩
          case measure => simp [intOf]; omega
        · obtain ⟨K, hK⟩ : ∃ K : Int, K = z - a := ⟨_, rfl⟩
          have e1 : stF a z = a := by unfold stF; rw [if_neg (by omega)]
          have e2 : stC a c z = K := by unfold stC; rw [if_neg (by omega)]; omega
          rw [e1, e2]
          clear e1 e2
          have eC' : Hid (stC a c (z + 32) = K + 32) := by show _ = _; rw [eC.out]; omega
          clear eC
          have hne : (a + K != z) = false := by simp; omega
          have hK0 : 0 ≤ K := by omega
          have hK1 : K ≤ 16384 := by omega
          have hK2 : a + K ≤ 262144 := by omega
          clear hK hza
          go_wp2_with fail
          refine (HHz.out _).mono ?_
          rintro e w1 ⟨rfl, hb1⟩
          have hk1 := hk.below hb1
          have hB1 := hB.trans (hb1.mono hB.size)
          go_wp2
          go_roundw
          case rel => exact ⟨m + 1, by have := HZ.out; omega, by rw [show b + 32 * ((m + 1 : Nat) : Int) = z + 32 from by have := HZ.out; omega], by rw [show b + 32 * ((m + 1 : Nat) : Int) = z + 32 from by have := HZ.out; omega]; rw [eF.out], by rw [show b + 32 * ((m + 1 : Nat) : Int) = z + 32 from by have := HZ.out; omega]; rw [eC'.out], hk1, hB1⟩
          case measure => simp [intOf]; omega
      · rw [decide_eq_false h_in] at HHz
        have eF : Hid (stF a (z + 32) = stF a z) := by
          show _ = _
          unfold stF
          by_cases hza : z < a
          · rw [if_pos (by omega), if_pos (by omega)]
          · rw [if_neg (by omega), if_neg (by omega)]
        have eC : Hid (stC a c (z + 32) = stC a c z) := by
          show _ = _
          unfold stC
          by_cases hza : z < a
          · rw [if_pos (by omega), if_pos (by omega)]
          · rw [if_neg (by omega), if_neg (by omega)]; omega
        generalize stF a z = F at *
        generalize stC a c z = C at *
        clear h_in
        go_wp2_with fail
        refine (HHz.out _).mono ?_
        rintro e w1 ⟨rfl, hb1⟩
        have hk1 := hk.below hb1
        have hB1 := hB.trans (hb1.mono hB.size)
        go_wp2
        go_roundw
        case rel => exact ⟨m + 1, by have := HZ.out; omega, by rw [show b + 32 * ((m + 1 : Nat) : Int) = z + 32 from by have := HZ.out; omega], by rw [show b + 32 * ((m + 1 : Nat) : Int) = z + 32 from by have := HZ.out; omega]; rw [eF.out], by rw [show b + 32 * ((m + 1 : Nat) : Int) = z + 32 from by have := HZ.out; omega]; rw [eC.out], hk1, hB1⟩
        case measure => simp [intOf]; omega
    · have e1 : stF a z = a := by unfold stF; rw [if_neg (by omega)]
      have e2 : stC a c z = c := by unfold stC; rw [if_neg (by omega)]; omega
      rw [e1, e2]
      clear e1 e2
      go_wp2
      go_ret2
      exact ⟨rfl, hB⟩
end Go.Proofs.Ythnelonbpbhhbab
