import Derived.Test.YtngdgogjlpjjpaeGreatGb00
namespace Go.Proofs.YtngdgogjlpjjpaeGreat
open Go.RowKit
set_option linter.unusedVariables false

/-- j parts from part i0 on -/
def runq (i0 j : Nat) : Nat := 2 ^ (i0 + j) - 2 ^ i0
theorem runq_zero (i0 : Nat) : runq i0 0 = 0 := by simp [runq]
theorem runq_step : ∀ i0, i0 < 8 → ∀ j, j < 8 → i0 + j < 8 → (runq i0 j ||| 2 ^ (i0 + j)) = runq i0 (j + 1) := by decide +kernel
theorem runq_lt : ∀ i0, i0 < 8 → ∀ j, j < 9 → i0 + j ≤ 8 → runq i0 j < 256 := by decide +kernel
theorem runq_pop : ∀ i0, i0 < 8 → ∀ j, j < 9 → i0 + j ≤ 8 → popc (runq i0 j) = j := by decide +kernel
theorem runq_full : ∀ i0, i0 < 8 → ∀ j, j < 9 → i0 + j ≤ 8 → (runq i0 j = 255 ↔ j = 8) := by decide +kernel

/-- THE STATE OF THE CHOICE: nothing yet, or a base, a Log and the parts. -/
abbrev CSt := Option (Int × Int × Nat)
def sCnt : CSt → Int
  | none => 0
  | some (b, l, q) => cnt l q
def StOk (s : CSt) (L : Int) : Prop := ∀ b l q, s = some (b, l, q) → 5 ≤ l ∧ l < L ∧ q < 256 ∧ 0 < cnt l q
/-- the state as it lies in memory -/
def Holds (w : World) (B : Nat) : CSt → Prop
  | none => Bst w B false 0 0 0
  | some (b, l, q) => Bst w B true b l (255 - (q : Int))
/-- what is kept when a region of Log L is offered -/
def keep (s : CSt) (b L : Int) (q : Nat) : CSt := if sCnt s < cnt L q then some (b, L, q) else s


theorem cnt_run (l : Int) (P : Int) (hP : (2:Int)^(l - 3).toNat = P) (i0 j : Nat) (h0 : i0 < 8) (h : i0 + j ≤ 8) : cnt l (runq i0 j) = j * P := by
  unfold cnt
  rw [hP, runq_pop i0 h0 j (by omega) h]

/-- a region is offered: none was there -/
theorem offer_none (B : Nat) (b l : Int) (q : Nat) (w : World) (h : Holds w B none) :
    Calls Tryz.prog 294 #[.pointer (some ⟨B, 0, none⟩), .agg #[.int .i64 b, .int .i64 l, .int .i64 (255 - (q : Int)), .bool false, .bool false, .bool false]] w fun e w' => e = .returned (.tuple #[]) ∧ Holds w' B (some (b, l, q)) ∧ Turn (fun j => j = B) w w' :=
  offer_new B b l (255 - (q : Int)) 0 0 0 w h
/-- a region is offered beside another -/
theorem offer_some (B : Nat) (b l b' l' : Int) (q q' : Nat) (w : World) (h : Holds w B (some (b', l', q'))) (hq : q < 256) (hq' : q' < 256) (hl : 5 ≤ l) (hl2 : l ≤ 14) (hl' : 5 ≤ l') (hl2' : l' ≤ 14) :
    Calls Tryz.prog 294 #[.pointer (some ⟨B, 0, none⟩), .agg #[.int .i64 b, .int .i64 l, .int .i64 (255 - (q : Int)), .bool false, .bool false, .bool false]] w fun e w' => e = .returned (.tuple #[]) ∧ Holds w' B (if cm l q l' q' then some (b, l, q) else some (b', l', q')) ∧ Turn (fun j => j = B) w w' :=
  (offer_cmp B b l b' l' q q' w h hq hq' hl hl2 hl' hl2').mono fun e w' he => ⟨he.1, by
    have := he.2.1
    cases hc : cm l q l' q'
    · rw [hc] at this; exact this
    · rw [hc] at this; exact this, he.2.2⟩

/-- the state behind j parts of Log l -/
def stJ (s : CSt) (b l : Int) (i0 j : Nat) : CSt := if 8 ≤ l ∨ j = 8 then keep s b l (runq i0 j) else s

theorem stJ_zero (s : CSt) (b l P : Int) (hP : (2:Int)^(l - 3).toNat = P) (i0 : Nat) (h0 : i0 < 8) (hs : 0 ≤ sCnt s) : stJ s b l i0 0 = s := by
  unfold stJ keep
  rw [cnt_run l P hP i0 0 h0 (by omega)]
  simp
  omega

/-- what an offer of part j + 1 makes of the state -/
theorem offer_step (B : Nat) (s : CSt) (b l P : Int) (hP : (2:Int)^(l - 3).toNat = P) (hP0 : 0 < P) (i0 j : Nat) (w : World) (h0 : i0 < 8) (hj : i0 + j < 8) (hl : 5 ≤ l) (hl2 : l ≤ 14) (hs : StOk s l) (hs0 : 0 ≤ sCnt s) (h8 : 8 ≤ l ∨ j + 1 = 8) (h : Holds w B (stJ s b l i0 j)) :
    Calls Tryz.prog 294 #[.pointer (some ⟨B, 0, none⟩), .agg #[.int .i64 b, .int .i64 l, .int .i64 (255 - (runq i0 (j + 1) : Int)), .bool false, .bool false, .bool false]] w fun e w' => e = .returned (.tuple #[]) ∧ Holds w' B (stJ s b l i0 (j + 1)) ∧ Turn (fun j => j = B) w w' := by
  have hq1 := runq_lt i0 h0 (j + 1) (by omega) (by omega)
  have hc1 := cnt_run l P hP i0 (j + 1) h0 (by omega)
  have hc0 := cnt_run l P hP i0 j h0 (by omega)
  have hmul : ((j + 1 : Nat) : Int) * P = (j : Int) * P + P := by rw [Int.natCast_add, Int.add_mul]; simp
  have hjP : 0 ≤ (j : Int) * P := Int.mul_nonneg (by omega) (by omega)
  have e1 : stJ s b l i0 (j + 1) = keep s b l (runq i0 (j + 1)) := by unfold stJ; rw [if_pos h8]
  rw [e1]
  by_cases hk : 8 ≤ l ∧ sCnt s < cnt l (runq i0 j)
  · have e0 : stJ s b l i0 j = some (b, l, runq i0 j) := by unfold stJ keep; rw [if_pos (Or.inl hk.1), if_pos hk.2]
    rw [e0] at h
    refine (offer_some B b l b l (runq i0 (j + 1)) (runq i0 j) w h hq1 (runq_lt i0 h0 j (by omega) (by omega)) hl hl2 hl hl2).mono fun e w' he => ?_
    have hcm : cm l (runq i0 (j + 1)) l (runq i0 j) = true := by unfold cm; rw [hc1, hc0, hmul]; simp; omega
    have ek : keep s b l (runq i0 (j + 1)) = some (b, l, runq i0 (j + 1)) := by unfold keep; rw [if_pos (by rw [hc1, hmul]; rw [hc0] at hk; omega)]
    rw [hcm] at he
    rw [ek]
    exact he
  · have e0 : stJ s b l i0 j = s := by
      unfold stJ
      by_cases h8' : 8 ≤ l
      · rw [if_pos (Or.inl h8')]
        unfold keep
        rw [if_neg (fun e => hk ⟨h8', e⟩)]
      · rw [if_neg (by omega)]
    rw [e0] at h
    match s, h, hs, hs0, hk with
    | none, h, _, _, _ =>
      have ek : keep none b l (runq i0 (j + 1)) = some (b, l, runq i0 (j + 1)) := by unfold keep; rw [if_pos (by rw [hc1, hmul]; simp [sCnt]; omega)]
      rw [ek]
      exact offer_none B b l (runq i0 (j + 1)) w h
    | some (b', l', q'), h, hs, hs0, hk =>
      obtain ⟨g1, g2, g3, g4⟩ := hs b' l' q' rfl
      refine (offer_some B b l b' l' (runq i0 (j + 1)) q' w h hq1 g3 hl hl2 g1 (by omega)).mono fun e w' he => ?_
      have hcm : cm l (runq i0 (j + 1)) l' q' = decide (cnt l' q' < cnt l (runq i0 (j + 1))) := by
        unfold cm
        rw [Bool.eq_iff_iff]
        simp
        intro _ h
        omega
      rw [hcm] at he
      by_cases hlt : cnt l' q' < cnt l (runq i0 (j + 1))
      · have ek : keep (some (b', l', q')) b l (runq i0 (j + 1)) = some (b, l, runq i0 (j + 1)) := by
          show (if cnt l' q' < cnt l (runq i0 (j + 1)) then some (b, l, runq i0 (j + 1)) else some (b', l', q')) = _
          rw [if_pos hlt]
        rw [ek]
        simp only [decide_eq_true hlt, if_true] at he
        exact he
      · have ek : keep (some (b', l', q')) b l (runq i0 (j + 1)) = some (b', l', q') := by
          show (if cnt l' q' < cnt l (runq i0 (j + 1)) then some (b, l, runq i0 (j + 1)) else some (b', l', q')) = _
          rw [if_neg hlt]
        rw [ek]
        simp only [decide_eq_false hlt] at he
        exact he
end Go.Proofs.YtngdgogjlpjjpaeGreat

namespace Go.Proofs.YtngdgogjlpjjpaeGreat
open Go.RowKit
set_option linter.unusedVariables false

theorem holds_turn {S : Nat → Prop} {w w' : World} {B : Nat} {s : CSt} (t : Turn S w w') (h : Holds w B s) (hk : ¬ S B) : Holds w' B s := by
  match s, h with
  | none, h => exact turn_blk t h hk
  | some (b, l, q), h => exact turn_blk t h hk
theorem holds_lt {w : World} {B : Nat} {s : CSt} (h : Holds w B s) : B < w.heap.size := by
  match s, h with
  | none, h => exact Blk.lt h
  | some (b, l, q), h => exact Blk.lt h
theorem base_ok (a l N : Int) (hl : 5 ≤ l) (hl2 : l ≤ 14) (hN : (2:Int)^l.toNat = N) (h0 : 0 ≤ a) (h1 : a < 262144) : 0 ≤ a - a % N ∧ a - a % N ≤ 262144 - N ∧ (a - a % N) % N = 0 ∧ 0 ≤ a % N ∧ a % N < N := by
  have : l = 5 ∨ l = 6 ∨ l = 7 ∨ l = 8 ∨ l = 9 ∨ l = 10 ∨ l = 11 ∨ l = 12 ∨ l = 13 ∨ l = 14 := by omega
  rcases this with rfl | rfl | rfl | rfl | rfl | rfl | rfl | rfl | rfl | rfl <;> (subst hN; simp; omega)
theorem pow_split (l : Int) (hl : 5 ≤ l) : (2:Int)^l.toNat = 8 * (2:Int)^(l - 3).toNat := by
  have : l.toNat = (l - 3).toNat + 3 := by omega
  rw [this, Int.pow_add]
  omega
theorem pow_four (l : Int) (hl : 5 ≤ l) (hl2 : l ≤ 14) : 4 ≤ (2:Int)^(l - 3).toNat ∧ (2:Int)^(l - 3).toNat ≤ 2048 := by
  have : l = 5 ∨ l = 6 ∨ l = 7 ∨ l = 8 ∨ l = 9 ∨ l = 10 ∨ l = 11 ∨ l = 12 ∨ l = 13 ∨ l = 14 := by omega
  rcases this with rfl | rfl | rfl | rfl | rfl | rfl | rfl | rfl | rfl | rfl <;> simp

theorem not_run (q : Nat) (h : q < 256) : bits BinOp.xor IntKind.u8 IntKind.u8.max (q : Int) = 255 - (q : Int) := by
  have := cv_xor (255 - q) (by omega)
  have e : (255 - ((255 - q : Nat) : Int)) = (q : Int) := by omega
  rw [e] at this
  rw [this]
  omega

/-- THE STATE BEHIND ONE Log, parts of P, base b, first part i0. -/
def BehindP (s : CSt) (a en l P b : Int) (i0 : Nat) (s' : CSt) : Prop :=
  (a % P ≠ 0 ∧ s' = s) ∨
  (a % P = 0 ∧ ∃ j : Nat, i0 + j ≤ 8 ∧ (b + ((i0 + j : Nat) : Int) * P ≤ en ∨ j = 0) ∧ (i0 + j = 8 ∨ en < b + (((i0 + j : Nat) : Int) + 1) * P) ∧ s' = stJ s b l i0 j)

theorem cv_in {S : Nat → Prop} {a w w' : World} (h : Turn S a w) (hb : Below w.heap.size w w') : Turn S a w' := h.trans (turn_below hb)

set_option maxHeartbeats 2000000 in
theorem offerRuns_any (B : Nat) (s : CSt) (a en l P N b : Int) (i0 : Nat) (w : World) (hl : 5 ≤ l) (hl2 : l ≤ 14) (ha : 0 ≤ a) (hae : a < en) (hen : en ≤ 262144) (hs : StOk s l) (hs0 : 0 ≤ sCnt s) (hP : (2:Int)^(l - 3).toNat = P) (hN : (2:Int)^l.toNat = N) (hb : a - a % N = b) (hi : (a - b) / P = (i0 : Int)) (h : Holds w B s) :
    Calls Tryz.prog 287 #[.pointer (some ⟨B, 0, none⟩), .int .i64 a, .int .i64 en, .int .i64 l] w fun e w' => e = .returned (.tuple #[]) ∧ (∃ s', Holds w' B s' ∧ BehindP s a en l P b i0 s') ∧ Turn (fun j => j = B) w w' := by
  obtain ⟨p4, p5⟩ := pow_four l hl hl2
  obtain ⟨b0, b1, b2, b3, b4⟩ := base_ok a l N hl hl2 hN ha (by omega)
  have hNP := pow_split l hl
  rw [hP, hN] at hNP
  have hN1 : N ≤ 16384 := by rw [hP] at p5; omega
  have hN0 : 0 < N := by rw [hP] at p4; omega
  rw [hb] at b0 b1 b2
  rw [hP] at p4 p5
  have hP' := hide hP
  have hN' := hide hN
  have hab : a - b = a % N := by omega
  have hi8 : i0 < 8 := by
    have : (a - b) / P < 8 := by
      apply Int.ediv_lt_of_lt_mul (by omega)
      omega
    omega
  by_cases hm : a % P = 0
  · have hab2 : a = b + (i0 : Int) * P := by
      have e1 : (a % N) % P = 0 := by
        rw [hNP, Int.emod_emod_of_dvd a (Int.dvd_mul_left 8 P)]
        exact hm
      have e2 := Int.mul_ediv_add_emod (a - b) P
      rw [hi, hab, e1, Int.mul_comm] at e2
      omega
    have HK := hide (stJ_zero s b l P hP i0 hi8 hs0)
    have HS := hide hs
    have HNP := hide hNP
    have HAB := hide hab2
    have HAB1 := hide hab
    have HH := hide h
    have HB2 := hide b2
    have HM := hide hm
    clear hNP hs hab2 hab h b2
    go_enter Tryz.func287, Tryz.ntmps287
    go_wp2
    go_loopw [10, 11] (fun r i wr => ∃ j : Nat, i0 + j ≤ 8 ∧ r = .int .u8 (runq i0 j : Nat) ∧ i = .int .i64 ((i0 + j : Nat) : Int) ∧ (b + ((i0 + j : Nat) : Int) * P ≤ en ∨ j = 0) ∧ Holds wr B (stJ s b l i0 j) ∧ Turn (fun j => j = B) w wr) (fun _ i _ => 8 - (intOf i).toNat)
    case atStart => exact ⟨0, by omega, by rw [runq_zero]; rfl, by rw [hi]; rfl, Or.inr rfl, by rw [HK.out]; exact HH.out, Turn.refl _ _⟩
    case round =>
      obtain ⟨j, hj, rfl, rfl, hq, hH, hT⟩ := hrel
      obtain ⟨k, hk⟩ : ∃ k : Nat, k = i0 + j := ⟨_, rfl⟩
      have hkP : ((k : Int) + 1) * P = (k : Int) * P + P := by rw [Int.add_mul]; simp
      have hkP0 : 0 ≤ (k : Int) * P := Int.mul_nonneg (by omega) (by omega)
      have hkP1 : (k : Int) * P ≤ 8 * P := Int.mul_le_mul_of_nonneg_right (by omega) (by omega)
      have hm0 : 0 ≤ ((k : Int) + 1) * P := by omega
      have hm1 : ((k : Int) + 1) * P ≤ 18432 := by omega
      rw [← hk] at hj hq ⊢
      have HKP := hide hkP
      have HQ := hide hq
      have HHH := hide hH
      have HT := hide hT
      have HKK := hide hk
      have HI := hide hi
      have HBB := hide hb
      clear hkP hkP0 hkP1 hq hH hT hk hi hb hP hN b3 b4 hm
      by_cases h8 : k < 8
      · by_cases hle : b + ((k : Int) + 1) * P ≤ en
        · have HLE := hide hle
          have hq0 := runq_lt i0 hi8 j (by have := HKK.out; omega) (by have := HKK.out; omega)
          have hq1 := runq_lt i0 hi8 (j + 1) (by have := HKK.out; omega) (by have := HKK.out; omega)
          have HST := hide (runq_step i0 hi8 j (by have := HKK.out; omega) (by have := HKK.out; omega))
          rw [← HKK.out] at HST
          have HNR := hide (not_run (runq i0 (j + 1)) hq1)
          have HROK := hide (show rok b l (255 - (runq i0 (j + 1) : Int)) = decide (8 ≤ l ∨ j + 1 = 8) from by
            have hf := runq_full i0 hi8 (j + 1) (by have := HKK.out; omega) (by have := HKK.out; omega)
            unfold rok
            rw [hN'.out]
            have := HB2.out
            rw [Bool.eq_iff_iff]
            simp only [decide_eq_true_eq]
            constructor
            · rintro ⟨_, _, _, _, h | h, _⟩
              · exact Or.inl h
              · exact Or.inr (hf.1 (by omega))
            · intro h
              refine ⟨hl, hl2, by omega, by omega, ?_, by omega, by omega, HB2.out⟩
              rcases h with h | h
              · exact Or.inl h
              · exact Or.inr (by have := hf.2 h; omega))
          go_wp2_with fail
          refine (with_any (runq i0 j) k _ hq0 h8).mono ?_
          rintro e w1 ⟨rfl, rfl⟩
          rw [HST.out]
          obtain ⟨q, hq⟩ : ∃ q, q = runq i0 (j + 1) := ⟨_, rfl⟩
          rw [← hq] at HNR HROK hq1 ⊢
          have HQQ := hide hq
          clear hq
          have hwf : (Lit.int .i64 b).wf = true := by simp [Lit.wf, IntKind.min, IntKind.max, IntKind.bits, IntKind.signed]; omega
          go_wp2_with fail
          rw [HNR.out]
          rw [show wrap64 (255 - (q : Int)) = 255 - (q : Int) from by unfold wrap64; omega]
          refine (iRegionOk_any b l (255 - (q : Int)) false false false _ hwf).mono ?_
          rintro e w2 ⟨rfl, hb2⟩
          obtain ⟨q1, q2, q3, q4, q5, q6, q7⟩ := (Blk.below (Blk.new wr #[.int .i64 b, .int .i64 l, .int .i64 (255 - (q : Int)), .bool false, .bool false, .bool false] 158) hb2).six'
          have HT2 := hide (cv_in (cv_in HT.out ((Below.refl _ _).alloc (Nat.le_refl _) (.cells #[.int .i64 b, .int .i64 l, .int .i64 (255 - (q : Int)), .bool false, .bool false, .bool false] 158))) hb2)
          have HH2 := hide (holds_turn (S := fun _ => False) (turn_below hb2) (holds_turn (S := fun _ => False) (turn_alloc wr (.cells #[.int .i64 b, .int .i64 l, .int .i64 (255 - (q : Int)), .bool false, .bool false, .bool false] 158)) HHH.out id) id)
          rw [HROK.out]
          clear hb2
          by_cases hc : 8 ≤ l ∨ j + 1 = 8
          · simp only [hc, decide_true]
            have HOF := hide (offer_step B s b l P hP'.out (by omega) i0 j w2 hi8 (by have := HKK.out; omega) hl hl2 HS.out hs0 hc HH2.out)
            rw [← HQQ.out] at HOF
            go_wp2_with fail
            refine HOF.out.mono ?_
            rintro e w3 ⟨rfl, hH3, hT3⟩
            have HH3 := hide hH3
            have HT3 := hide (HT2.out.trans hT3)
            clear hH3 hT3
            go_wp2_with fail
            go_roundw
            case rel => exact ⟨j + 1, by have := HKK.out; omega, by rw [HQQ.out], by rw [HKK.out]; go_num, Or.inl (by have := HLE.out; have e := HKK.out; rw [show ((i0 + (j + 1) : Nat) : Int) = (k : Int) + 1 by omega]; exact this), HH3.out, HT3.out⟩
            case measure => simp [intOf]; omega
          · simp only [hc, decide_false]
            have HH3 := hide (show Holds w2 B (stJ s b l i0 (j + 1)) from by
              have e1 : stJ s b l i0 (j + 1) = s := by unfold stJ; rw [if_neg hc]
              have e2 : stJ s b l i0 j = s := by unfold stJ; rw [if_neg (by have := HKK.out; omega)]
              rw [e1, ← e2]
              exact HH2.out)
            go_wp2_with fail
            go_roundw
            case rel => exact ⟨j + 1, by have := HKK.out; omega, by rw [HQQ.out], by rw [HKK.out]; go_num, Or.inl (by have := HLE.out; have e := HKK.out; rw [show ((i0 + (j + 1) : Nat) : Int) = (k : Int) + 1 by omega]; exact this), HH3.out, HT2.out⟩
            case measure => simp [intOf]; omega
        · have HLE := hide hle
          go_wp2
          go_end0
          exact ⟨rfl, ⟨_, HHH.out, Or.inr ⟨HM.out, j, by have := HKK.out; omega, by rw [← HKK.out]; exact HQ.out, by rw [← HKK.out]; exact Or.inr (by have := HLE.out; omega), rfl⟩⟩, HT.out⟩
      · go_wp2
        go_end0
        exact ⟨rfl, ⟨_, HHH.out, Or.inr ⟨HM.out, j, by have := HKK.out; omega, by rw [← HKK.out]; exact HQ.out, Or.inl (by have := HKK.out; omega), rfl⟩⟩, HT.out⟩
  · have hm' : (a % P != 0) = true := by simpa using hm
    have HN := hide hm
    clear hm
    go_enter Tryz.func287, Tryz.ntmps287
    go_wp2
    (try simp only [Exit.inBlock, Exit.then]); refine bodyPost_ret (results_none rfl _ _ _) rfl ?_
    exact ⟨rfl, ⟨s, h, Or.inl ⟨HN.out, rfl⟩⟩, Turn.refl _ _⟩
end Go.Proofs.YtngdgogjlpjjpaeGreat

namespace Go.Proofs.YtngdgogjlpjjpaeGreat
open Go.RowKit
set_option linter.unusedVariables false

def baseOf (a l : Int) : Int := a - a % (2:Int)^l.toNat
def i0Of (a l : Int) : Nat := ((a % (2:Int)^l.toNat) / (2:Int)^(l - 3).toNat).toNat
def jOf (a en l : Int) : Nat := min (8 - i0Of a l) ((en - a) / (2:Int)^(l - 3).toNat).toNat
/-- THE PARTS that the best region of Log l has. -/
def qOf (a en l : Int) : Nat :=
  if l < 8 then (if a % (2:Int)^l.toNat = 0 ∧ a + (2:Int)^l.toNat ≤ en then 255 else 0)
  else if a % (2:Int)^(l - 3).toNat = 0 then runq (i0Of a l) (jOf a en l) else 0

theorem cnt_zero (l : Int) : cnt l 0 = 0 := by simp [cnt, popc]
theorem keep_zero (s : CSt) (b l : Int) (h : 0 ≤ sCnt s) : keep s b l 0 = s := by
  unfold keep
  rw [cnt_zero, if_neg (by omega)]

theorem parts (a l P N : Int) (hl : 5 ≤ l) (hl2 : l ≤ 14) (hP : (2:Int)^(l - 3).toNat = P) (hN : (2:Int)^l.toNat = N) (ha : 0 ≤ a) (ha2 : a < 262144) :
    N = 8 * P ∧ 4 ≤ P ∧ P ≤ 2048 ∧ (a % N) % P = a % P ∧ i0Of a l < 8 ∧ (a % P = 0 → a % N = (i0Of a l : Int) * P) ∧ (a - baseOf a l) / P = (i0Of a l : Int) := by
  obtain ⟨p4, p5⟩ := pow_four l hl hl2
  have hNP := pow_split l hl
  rw [hP, hN] at hNP
  rw [hP] at p4 p5
  obtain ⟨b0, b1, b2, b3, b4⟩ := base_ok a l N hl hl2 hN ha ha2
  have hd : (a % N) % P = a % P := by rw [hNP, Int.emod_emod_of_dvd a (Int.dvd_mul_left 8 P)]
  have h0 : 0 ≤ (a % N) / P := Int.ediv_nonneg b3 (by omega)
  have h8 : (a % N) / P < 8 := Int.ediv_lt_of_lt_mul (by omega) (by omega)
  have hi : ((i0Of a l : Nat) : Int) = (a % N) / P := by unfold i0Of; rw [hP, hN]; omega
  refine ⟨hNP, p4, p5, hd, by omega, fun hm => ?_, ?_⟩
  · have e2 := Int.mul_ediv_add_emod (a % N) P
    rw [hd, hm, ← hi, Int.mul_comm] at e2
    omega
  · unfold baseOf
    rw [hN, hi]
    congr 1
    omega

theorem j_is (a en l P N : Int) (hl : 5 ≤ l) (hl2 : l ≤ 14) (hP : (2:Int)^(l - 3).toNat = P) (hN : (2:Int)^l.toNat = N) (ha : 0 ≤ a) (hae : a < en) (hen : en ≤ 262144) (hm : a % P = 0) (j : Nat) (h1 : i0Of a l + j ≤ 8)
    (h2 : baseOf a l + ((i0Of a l + j : Nat) : Int) * P ≤ en ∨ j = 0) (h3 : i0Of a l + j = 8 ∨ en < baseOf a l + (((i0Of a l + j : Nat) : Int) + 1) * P) : j = jOf a en l ∧ a + (j : Int) * P ≤ en := by
  obtain ⟨g1, g2, g3, g4, g5, g6, g7⟩ := parts a l P N hl hl2 hP hN ha (by omega)
  have hb : baseOf a l = a - a % N := by unfold baseOf; rw [hN]
  have e1 : ((i0Of a l + j : Nat) : Int) * P = (i0Of a l : Int) * P + (j : Int) * P := by rw [Int.natCast_add, Int.add_mul]
  have e2 : (((i0Of a l + j : Nat) : Int) + 1) * P = (i0Of a l : Int) * P + (j : Int) * P + P := by rw [Int.add_mul, e1]; omega
  rw [hb, g6 hm, e1] at h2
  rw [hb, g6 hm, e2] at h3
  have hjP : a + (j : Int) * P ≤ en := by
    rcases h2 with h | h
    · omega
    · subst h; simp; omega
  have hd : (j : Int) ≤ (en - a) / P := Int.le_ediv_of_mul_le (by omega) (by omega)
  refine ⟨?_, hjP⟩
  unfold jOf
  rw [hP]
  rcases h3 with h | h
  · omega
  · have : (en - a) / P < (j : Int) + 1 := Int.ediv_lt_of_lt_mul (by omega) (by rw [Int.add_mul]; omega)
    omega

theorem behind_keep (s s' : CSt) (a en l P N : Int) (hl : 5 ≤ l) (hl2 : l ≤ 14) (hP : (2:Int)^(l - 3).toNat = P) (hN : (2:Int)^l.toNat = N) (ha : 0 ≤ a) (hae : a < en) (hen : en ≤ 262144) (hs : 0 ≤ sCnt s)
    (h : BehindP s a en l P (baseOf a l) (i0Of a l) s') : s' = keep s (baseOf a l) l (qOf a en l) := by
  obtain ⟨g1, g2, g3, g4, g5, g6, g7⟩ := parts a l P N hl hl2 hP hN ha (by omega)
  rcases h with ⟨hm, rfl⟩ | ⟨hm, j, h1, h2, h3, rfl⟩
  · have hq : qOf a en l = 0 := by
      unfold qOf
      rw [hP, hN]
      by_cases h8 : l < 8
      · rw [if_pos h8, if_neg]
        rintro ⟨h, _⟩
        rw [h] at g4
        simp at g4
        exact hm g4.symm
      · rw [if_neg h8, if_neg hm]
    rw [hq, keep_zero _ _ _ hs]
  · obtain ⟨hj, hjP⟩ := j_is a en l P N hl hl2 hP hN ha hae hen hm j h1 h2 h3
    have g6' := g6 hm
    unfold stJ qOf
    rw [hP, hN]
    by_cases h8 : l < 8
    · rw [if_pos h8]
      by_cases h88 : j = 8
      · have : i0Of a l = 0 := by omega
        rw [this] at g6'
        simp at g6'
        subst h88
        rw [if_pos (Or.inr rfl), if_pos ⟨g6', by omega⟩, this]
        rfl
      · rw [if_neg (by omega), if_neg, keep_zero _ _ _ hs]
        rintro ⟨k1, k2⟩
        rw [k1] at g6'
        have hi0 : i0Of a l = 0 := by
          have : (i0Of a l : Int) = 0 := by
            rcases Int.mul_eq_zero.1 g6'.symm with h | h
            · exact h
            · omega
          omega
        have hd : (8 : Int) ≤ (en - a) / P := Int.le_ediv_of_mul_le (by omega) (by omega)
        unfold jOf at hj
        rw [hP] at hj
        omega
    · rw [if_pos (Or.inl (by omega)), if_neg h8, if_pos hm, ← hj]

/-- THE CHOICE over n Logs from 5 on. -/
def cvFold (a en : Int) (n : Nat) : CSt :=
  if h : n = 0 then none else keep (cvFold a en (n - 1)) (baseOf a (5 + ((n - 1 : Nat) : Int))) (5 + ((n - 1 : Nat) : Int)) (qOf a en (5 + ((n - 1 : Nat) : Int)))
theorem cvFold_none (a en : Int) : cvFold a en 0 = none := by rw [cvFold, dif_pos rfl]
theorem cvFold_succ (a en : Int) (n : Nat) : cvFold a en (n + 1) = keep (cvFold a en n) (baseOf a (5 + n)) (5 + n) (qOf a en (5 + n)) := by
  rw [cvFold, dif_neg (by omega)]
  rfl

theorem cnt_nonneg (l : Int) (q : Nat) : 0 ≤ cnt l q := by
  unfold cnt
  exact Int.mul_nonneg (by omega) (Int.le_of_lt (pow_pos _))
theorem sCnt_nonneg (s : CSt) : 0 ≤ sCnt s := by
  match s with
  | none => exact Int.le_refl _
  | some (b, l, q) => exact cnt_nonneg l q
theorem qOf_lt (a en l : Int) (hl : 5 ≤ l) (hl2 : l ≤ 14) (ha : 0 ≤ a) (ha2 : a < 262144) : qOf a en l < 256 := by
  obtain ⟨g1, g2, g3, g4, g5, g6, g7⟩ := parts a l _ _ hl hl2 rfl rfl ha ha2
  unfold qOf
  split
  · split <;> omega
  · split
    · apply runq_lt _ g5 <;> (unfold jOf; omega)
    · omega
theorem cvFold_ok (a en : Int) (ha : 0 ≤ a) (ha2 : a < 262144) : ∀ n : Nat, n ≤ 10 → StOk (cvFold a en n) (5 + n)
  | 0, _ => fun b l q h => by rw [cvFold_none] at h; cases h
  | n + 1, hn => by
    have ih := cvFold_ok a en ha ha2 n (by omega)
    intro b l q h
    rw [cvFold_succ] at h
    unfold keep at h
    split at h
    · rename_i hlt
      simp at h
      obtain ⟨rfl, rfl, rfl⟩ := h
      refine ⟨by omega, by omega, qOf_lt a en _ (by omega) (by omega) ha ha2, ?_⟩
      have := sCnt_nonneg (cvFold a en n)
      omega
    · obtain ⟨k1, k2, k3, k4⟩ := ih b l q h
      exact ⟨k1, by omega, k3, k4⟩

set_option maxHeartbeats 2000000 in
theorem widest_any (a en : Int) (w : World) (ha : 0 ≤ a) (hae : a < en) (hen : en ≤ 262144) (b l : Int) (q : Nat) (hF : cvFold a en 10 = some (b, l, q)) :
    Calls Tryz.prog 282 #[.int .i64 a, .int .i64 en] w fun e w' => e = .returned (.agg #[.int .i64 b, .int .i64 l, .int .i64 (255 - (q : Int)), .bool false, .bool false, .bool false]) ∧ Below w.heap.size w w' := by
  have HF := hide hF
  clear hF
  have HA := hide (And.intro ha (And.intro hae hen))
  go_enter Tryz.func282, Tryz.ntmps282
  go_wp2
  go_loopw [6] (fun x wr => ∃ n : Nat, n ≤ 10 ∧ x = .int .i64 (5 + (n : Int)) ∧ Holds wr (w.heap.size + 1) (cvFold a en n) ∧ Blk wr w.heap.size #[.int .i64 0, .int .i64 0, .int .i64 0, .bool false, .bool false, .bool false] 158 ∧ Below w.heap.size w wr) (fun x _ => 15 - (intOf x).toNat)
  case atStart =>
    refine ⟨0, by omega, rfl, ?_, ?_, ?_⟩
    · rw [cvFold_none]
      have := Blk.new (w.alloc (.cells #[.int .i64 0, .int .i64 0, .int .i64 0, .bool false, .bool false, .bool false] 158)) #[.func (Fn.func 286) #[] #[], .bool false, .int .i64 0, .int .i64 0, .int .i64 0, .bool false, .bool false, .bool false] 308
      simp only [World.size_alloc] at this
      exact this
    · exact (Blk.new w _ _).alloc _
    · exact ((Below.refl _ _).alloc (Nat.le_refl _) _).alloc (by simp) _
  case round =>
    obtain ⟨n, hn, rfl, hH, hZ, hB⟩ := hrel
    have HH := hide hH
    have HB := hide hB
    have HZ := hide hZ
    clear hH hB hZ
    by_cases hlt : n < 10
    · have hsz := HB.out.size
      have HC := hide (offerRuns_any (w.heap.size + 1) (cvFold a en n) a en (5 + (n : Int)) _ _ _ (i0Of a (5 + (n : Int))) wr (by omega) (by omega) ha hae hen (cvFold_ok a en ha (by omega) n (by omega)) (sCnt_nonneg _) rfl rfl rfl (parts a (5 + (n : Int)) _ _ (by omega) (by omega) rfl rfl ha (by omega)).2.2.2.2.2.2 HH.out)
      go_wp2_with fail
      refine HC.out.mono ?_
      rintro e w1 ⟨rfl, ⟨s', hs', hb'⟩, t1⟩
      have hk := behind_keep _ _ a en (5 + (n : Int)) _ _ (by omega) (by omega) rfl rfl ha hae hen (sCnt_nonneg _) hb'
      have H1 := hide (show Holds w1 (w.heap.size + 1) (cvFold a en (n + 1)) from by rw [hk] at hs'; rw [cvFold_succ]; exact hs')
      have Z1 := hide (turn_blk t1 HZ.out (by omega))
      have B1 := hide (below_turn HB.out t1 (fun k e => by omega) hsz)
      clear hk hs' hb' t1 HC
      go_wp2_with fail
      go_roundw
      case rel => exact ⟨n + 1, by omega, by go_num, H1.out, Z1.out, B1.out⟩
      case measure => simp [intOf]; omega
    · have hn10 : n = 10 := by omega
      subst hn10
      rw [HF.out] at HH
      have HC := hide (Bst.cells HH.out)
      obtain ⟨q1, q2, q3, q4, q5, q6, q7, q8, q9⟩ := HC.out
      obtain ⟨p1, p2, p3, p4, p5, p6, p7⟩ := HZ.out.six'
      have HK := hide (Blk.set (Blk.set (Blk.set (Blk.set (Blk.set (Blk.set HZ.out 0 (.int .i64 b)) 1 (.int .i64 l)) 2 (.int .i64 (255 - (q : Int)))) 3 (.bool false)) 4 (.bool false)) 5 (.bool false))
      go_wp2
      refine bodyPost_ret (results_cell_row rfl _ _ w.heap.size 158 #[.int .i64 b, .int .i64 l, .int .i64 (255 - (q : Int)), .bool false, .bool false, .bool false] (0, 0) _ rfl (by exact HK.out) Tryz.underlying158 rfl (by kernel_rfl)) rfl ⟨rfl, ?_⟩
      exact (((((HB.out.setCell (Nat.le_refl _) _).setCell (Nat.le_refl _) _).setCell (Nat.le_refl _) _).setCell (Nat.le_refl _) _).setCell (Nat.le_refl _) _).setCell (Nat.le_refl _) _
end Go.Proofs.YtngdgogjlpjjpaeGreat
