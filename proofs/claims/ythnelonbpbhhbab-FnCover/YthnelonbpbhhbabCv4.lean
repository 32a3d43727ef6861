import Derived.Test.YthnelonbpbhhbabCv3
namespace Go.Proofs.Ythnelonbpbhhbab
open Go.RowKit
set_option linter.unusedVariables false

theorem holds_turn {S : Nat → Prop} {w w' : World} {B : Nat} {s : St} (t : Turn S w w') (h : Holds w B s) (hk : ¬ S B) : Holds w' B s := by
  match s, h with
  | none, h => exact turn_blk t h hk
  | some (b, l, q), h => exact turn_blk t h hk
theorem holds_lt {w : World} {B : Nat} {s : St} (h : Holds w B s) : B < w.heap.size := by
  match s, h with
  | none, h => exact Blk.lt h
  | some (b, l, q), h => exact Blk.lt h
theorem base_ok (a l N : Int) (hl : 5 ≤ l) (hl2 : l ≤ 14) (hN : (2:Int)^l.toNat = N) (h0 : 0 ≤ a) (h1 : a < 262144) : 0 ≤ a - a % N ∧ a - a % N ≤ 262144 - N ∧ (a - a % N) % N = 0 ∧ 0 ≤ a % N ∧ a % N < N := by
  have : l = 5 ∨ l = 6 ∨ l = 7 ∨ l = 8 ∨ l = 9 ∨ l = 10 ∨ l = 11 ∨ l = 12 ∨ l = 13 ∨ l = 14 := by omega
  rcases this with rfl | rfl | rfl | rfl | rfl | rfl | rfl | rfl | rfl | rfl <;> (subst hN; simp; omega)
theorem pow_split (l : Int) (hl : 5 ≤ l) : (2:Int)^l.toNat = 8 * (2:Int)^(l - 3).toNat := by
  have : l.toNat = (l - 3).toNat + 3 := by omega
  rw [this, Int.pow_add]
  omega
theorem pow_four (l : Int) (hl : 5 ≤ l) (hl2 : l ≤ 14) : 4 ≤ (2:Int)^(l - 3).toNat ∧ (2:Int)^(l - 3).toNat ≤ 2048 := by
  have : l = 5 ∨ l = 6 ∨ l = 7 ∨ l = 8 ∨ l = 9 ∨ l = 10 ∨ l = 11 ∨ l = 12 ∨ l = 13 ∨ l = 14 := by omega
  rcases this with rfl | rfl | rfl | rfl | rfl | rfl | rfl | rfl | rfl | rfl <;> simp

theorem not_run (q : Nat) (h : q < 256) : bits BinOp.xor IntKind.u8 IntKind.u8.max (q : Int) = 255 - (q : Int) := by
  have := cv_xor (255 - q) (by omega)
  have e : (255 - ((255 - q : Nat) : Int)) = (q : Int) := by omega
  rw [e] at this
  rw [this]
  omega

/-- THE STATE BEHIND ONE Log, parts of P, base b, first part i0. -/
def BehindP (s : St) (a en l P b : Int) (i0 : Nat) (s' : St) : Prop :=
  (a % P ≠ 0 ∧ s' = s) ∨
  (a % P = 0 ∧ ∃ j : Nat, i0 + j ≤ 8 ∧ (b + ((i0 + j : Nat) : Int) * P ≤ en ∨ j = 0) ∧ (i0 + j = 8 ∨ en < b + (((i0 + j : Nat) : Int) + 1) * P) ∧ s' = stJ s b l i0 j)

theorem cv_in {S : Nat → Prop} {a w w' : World} (h : Turn S a w) (hb : Below w.heap.size w w') : Turn S a w' := h.trans (turn_below hb)

set_option maxHeartbeats 2000000 in
theorem offerRuns_any (B : Nat) (s : St) (a en l P N b : Int) (i0 : Nat) (w : World) (hl : 5 ≤ l) (hl2 : l ≤ 14) (ha : 0 ≤ a) (hae : a < en) (hen : en ≤ 262144) (hs : StOk s l) (hs0 : 0 ≤ sCnt s) (hP : (2:Int)^(l - 3).toNat = P) (hN : (2:Int)^l.toNat = N) (hb : a - a % N = b) (hi : (a - b) / P = (i0 : Int)) (h : Holds w B s) :
    Calls Try.prog 75 #[.pointer (some ⟨B, 0, none⟩), .int .i64 a, .int .i64 en, .int .i64 l] w fun e w' => e = .returned (.tuple #[]) ∧ (∃ s', Holds w' B s' ∧ BehindP s a en l P b i0 s') ∧ Turn (fun j => j = B) w w' := by
  obtain ⟨p4, p5⟩ := pow_four l hl hl2
  obtain ⟨b0, b1, b2, b3, b4⟩ := base_ok a l N hl hl2 hN ha (by omega)
  have hNP := pow_split l hl
  rw [hP, hN] at hNP
  have hN1 : N ≤ 16384 := by rw [hP] at p5; omega
  have hN0 : 0 < N := by rw [hP] at p4; omega
  rw [hb] at b0 b1 b2
  rw [hP] at p4 p5
  have hP' := hide hP
  have hN' := hide hN
  have hab : a - b = a % N := by omega
  have hi8 : i0 < 8 := by
    have : (a - b) / P < 8 := by
      apply Int.ediv_lt_of_lt_mul (by omega)
      omega
    omega
  by_cases hm : a % P = 0
  · have hab2 : a = b + (i0 : Int) * P := by
      have e1 : (a % N) % P = 0 := by
        rw [hNP, Int.emod_emod_of_dvd a (Int.dvd_mul_left 8 P)]
        exact hm
      have e2 := Int.mul_ediv_add_emod (a - b) P
      rw [hi, hab, e1, Int.mul_comm] at e2
      omega
    have HK := hide (stJ_zero s b l P hP i0 hi8 hs0)
    have HS := hide hs
    have HNP := hide hNP
    have HAB := hide hab2
    have HAB1 := hide hab
    have HH := hide h
    have HB2 := hide b2
    have HM := hide hm
    clear hNP hs hab2 hab h b2
    go_enter Try.func75, Try.ntmps75
    go_wp2
    go_loopw [10, 11] (fun r i wr => ∃ j : Nat, i0 + j ≤ 8 ∧ r = .int .u8 (runq i0 j : Nat) ∧ i = .int .i64 ((i0 + j : Nat) : Int) ∧ (b + ((i0 + j : Nat) : Int) * P ≤ en ∨ j = 0) ∧ Holds wr B (stJ s b l i0 j) ∧ Turn (fun j => j = B) w wr) (fun _ i _ => 8 - (intOf i).toNat)
    case atStart => exact ⟨0, by omega, by rw [runq_zero]; rfl, by rw [hi]; rfl, Or.inr rfl, by rw [HK.out]; exact HH.out, Turn.refl _ _⟩
    case round =>
      obtain ⟨j, hj, rfl, rfl, hq, hH, hT⟩ := hrel
      obtain ⟨k, hk⟩ : ∃ k : Nat, k = i0 + j := ⟨_, rfl⟩
      have hkP : ((k : Int) + 1) * P = (k : Int) * P + P := by rw [Int.add_mul]; simp
      have hkP0 : 0 ≤ (k : Int) * P := Int.mul_nonneg (by omega) (by omega)
      have hkP1 : (k : Int) * P ≤ 8 * P := Int.mul_le_mul_of_nonneg_right (by omega) (by omega)
      have hm0 : 0 ≤ ((k : Int) + 1) * P := by omega
      have hm1 : ((k : Int) + 1) * P ≤ 18432 := by omega
      rw [← hk] at hj hq ⊢
      have HKP := hide hkP
      have HQ := hide hq
      have HHH := hide hH
      have HT := hide hT
      have HKK := hide hk
      have HI := hide hi
      have HBB := hide hb
      clear hkP hkP0 hkP1 hq hH hT hk hi hb hP hN b3 b4 hm
      by_cases h8 : k < 8
      · by_cases hle : b + ((k : Int) + 1) * P ≤ en
        · have HLE := hide hle
          have hq0 := runq_lt i0 hi8 j (by have := HKK.out; omega) (by have := HKK.out; omega)
          have hq1 := runq_lt i0 hi8 (j + 1) (by have := HKK.out; omega) (by have := HKK.out; omega)
          have HST := hide (runq_step i0 hi8 j (by have := HKK.out; omega) (by have := HKK.out; omega))
          rw [← HKK.out] at HST
          have HNR := hide (not_run (runq i0 (j + 1)) hq1)
          have HROK := hide (show rok b l (255 - (runq i0 (j + 1) : Int)) = decide (8 ≤ l ∨ j + 1 = 8) from by
            have hf := runq_full i0 hi8 (j + 1) (by have := HKK.out; omega) (by have := HKK.out; omega)
            unfold rok
            rw [hN'.out]
            have := HB2.out
            rw [Bool.eq_iff_iff]
            simp only [decide_eq_true_eq]
            constructor
            · rintro ⟨_, _, _, _, h | h, _⟩
              · exact Or.inl h
              · exact Or.inr (hf.1 (by omega))
            · intro h
              refine ⟨hl, hl2, by omega, by omega, ?_, by omega, by omega, HB2.out⟩
              rcases h with h | h
              · exact Or.inl h
              · exact Or.inr (by have := hf.2 h; omega))
          go_wp2_with fail
          refine (with_any (runq i0 j) k _ hq0 h8).mono ?_
          rintro e w1 ⟨rfl, rfl⟩
          rw [HST.out]
          obtain ⟨q, hq⟩ : ∃ q, q = runq i0 (j + 1) := ⟨_, rfl⟩
          rw [← hq] at HNR HROK hq1 ⊢
          have HQQ := hide hq
          clear hq
          have hwf : (Lit.int .i64 b).wf = true := by simp [Lit.wf, IntKind.min, IntKind.max, IntKind.bits, IntKind.signed]; omega
          go_wp2_with fail
          rw [HNR.out]
          rw [show wrap64 (255 - (q : Int)) = 255 - (q : Int) from by unfold wrap64; omega]
          refine (iRegionOk_any b l (255 - (q : Int)) false false false _ hwf).mono ?_
          rintro e w2 ⟨rfl, hb2⟩
          obtain ⟨q1, q2, q3, q4, q5, q6, q7⟩ := (Blk.below (Blk.new wr #[.int .i64 b, .int .i64 l, .int .i64 (255 - (q : Int)), .bool false, .bool false, .bool false] 30) hb2).six'
          have HT2 := hide (cv_in (cv_in HT.out ((Below.refl _ _).alloc (Nat.le_refl _) (.cells #[.int .i64 b, .int .i64 l, .int .i64 (255 - (q : Int)), .bool false, .bool false, .bool false] 30))) hb2)
          have HH2 := hide (holds_turn (S := fun _ => False) (turn_below hb2) (holds_turn (S := fun _ => False) (turn_alloc wr (.cells #[.int .i64 b, .int .i64 l, .int .i64 (255 - (q : Int)), .bool false, .bool false, .bool false] 30)) HHH.out id) id)
          rw [HROK.out]
          clear hb2
          by_cases hc : 8 ≤ l ∨ j + 1 = 8
          · simp only [hc, decide_true]
            have HOF := hide (offer_step B s b l P hP'.out (by omega) i0 j w2 hi8 (by have := HKK.out; omega) hl hl2 HS.out hs0 hc HH2.out)
            rw [← HQQ.out] at HOF
            go_wp2_with fail
            refine HOF.out.mono ?_
            rintro e w3 ⟨rfl, hH3, hT3⟩
            have HH3 := hide hH3
            have HT3 := hide (HT2.out.trans hT3)
            clear hH3 hT3
            go_wp2_with fail
            go_roundw
            case rel => exact ⟨j + 1, by have := HKK.out; omega, by rw [HQQ.out], by rw [HKK.out]; go_num, Or.inl (by have := HLE.out; have e := HKK.out; rw [show ((i0 + (j + 1) : Nat) : Int) = (k : Int) + 1 by omega]; exact this), HH3.out, HT3.out⟩
            case measure => simp [intOf]; omega
          · simp only [hc, decide_false]
            have HH3 := hide (show Holds w2 B (stJ s b l i0 (j + 1)) from by
              have e1 : stJ s b l i0 (j + 1) = s := by unfold stJ; rw [if_neg hc]
              have e2 : stJ s b l i0 j = s := by unfold stJ; rw [if_neg (by have := HKK.out; omega)]
              rw [e1, ← e2]
              exact HH2.out)
            go_wp2_with fail
            go_roundw
            case rel => exact ⟨j + 1, by have := HKK.out; omega, by rw [HQQ.out], by rw [HKK.out]; go_num, Or.inl (by have := HLE.out; have e := HKK.out; rw [show ((i0 + (j + 1) : Nat) : Int) = (k : Int) + 1 by omega]; exact this), HH3.out, HT2.out⟩
            case measure => simp [intOf]; omega
        · have HLE := hide hle
          go_wp2
          go_end0
          exact ⟨rfl, ⟨_, HHH.out, Or.inr ⟨HM.out, j, by have := HKK.out; omega, by rw [← HKK.out]; exact HQ.out, by rw [← HKK.out]; exact Or.inr (by have := HLE.out; omega), rfl⟩⟩, HT.out⟩
      · go_wp2
        go_end0
        exact ⟨rfl, ⟨_, HHH.out, Or.inr ⟨HM.out, j, by have := HKK.out; omega, by rw [← HKK.out]; exact HQ.out, Or.inl (by have := HKK.out; omega), rfl⟩⟩, HT.out⟩
  · have hm' : (a % P != 0) = true := by simpa using hm
    have HN := hide hm
    clear hm
    go_enter Try.func75, Try.ntmps75
    go_wp2
    (try simp only [Exit.inBlock, Exit.then]); refine bodyPost_ret (results_none rfl _ _ _) rfl ?_
    exact ⟨rfl, ⟨s, h, Or.inl ⟨HN.out, rfl⟩⟩, Turn.refl _ _⟩
end Go.Proofs.Ythnelonbpbhhbab
