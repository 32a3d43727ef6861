import Derived.Test.YthnelonbpbhhbabCv2
namespace Go.Proofs.Ythnelonbpbhhbab
open Go.RowKit
set_option linter.unusedVariables false

/-- j parts from part i0 on -/
def runq (i0 j : Nat) : Nat := 2 ^ (i0 + j) - 2 ^ i0
theorem runq_zero (i0 : Nat) : runq i0 0 = 0 := by simp [runq]
theorem runq_step : ∀ i0, i0 < 8 → ∀ j, j < 8 → i0 + j < 8 → (runq i0 j ||| 2 ^ (i0 + j)) = runq i0 (j + 1) := by decide +kernel
theorem runq_lt : ∀ i0, i0 < 8 → ∀ j, j < 9 → i0 + j ≤ 8 → runq i0 j < 256 := by decide +kernel
theorem runq_pop : ∀ i0, i0 < 8 → ∀ j, j < 9 → i0 + j ≤ 8 → popc (runq i0 j) = j := by decide +kernel
theorem runq_full : ∀ i0, i0 < 8 → ∀ j, j < 9 → i0 + j ≤ 8 → (runq i0 j = 255 ↔ j = 8) := by decide +kernel

/-- THE STATE OF THE CHOICE: nothing yet, or a base, a Log and the parts. -/
abbrev St := Option (Int × Int × Nat)
def sCnt : St → Int
  | none => 0
  | some (b, l, q) => cnt l q
def StOk (s : St) (L : Int) : Prop := ∀ b l q, s = some (b, l, q) → 5 ≤ l ∧ l < L ∧ q < 256 ∧ 0 < cnt l q
/-- the state as it lies in memory -/
def Holds (w : World) (B : Nat) : St → Prop
  | none => Bst w B false 0 0 0
  | some (b, l, q) => Bst w B true b l (255 - (q : Int))
/-- what is kept when a region of Log L is offered -/
def keep (s : St) (b L : Int) (q : Nat) : St := if sCnt s < cnt L q then some (b, L, q) else s


theorem cnt_run (l : Int) (P : Int) (hP : (2:Int)^(l - 3).toNat = P) (i0 j : Nat) (h0 : i0 < 8) (h : i0 + j ≤ 8) : cnt l (runq i0 j) = j * P := by
  unfold cnt
  rw [hP, runq_pop i0 h0 j (by omega) h]

/-- a region is offered: none was there -/
theorem offer_none (B : Nat) (b l : Int) (q : Nat) (w : World) (h : Holds w B none) :
    Calls Try.prog 92 #[.pointer (some ⟨B, 0, none⟩), .agg #[.int .i64 b, .int .i64 l, .int .i64 (255 - (q : Int)), .bool false, .bool false, .bool false]] w fun e w' => e = .returned (.tuple #[]) ∧ Holds w' B (some (b, l, q)) ∧ Turn (fun j => j = B) w w' :=
  offer_new B b l (255 - (q : Int)) 0 0 0 w h
/-- a region is offered beside another -/
theorem offer_some (B : Nat) (b l b' l' : Int) (q q' : Nat) (w : World) (h : Holds w B (some (b', l', q'))) (hq : q < 256) (hq' : q' < 256) (hl : 5 ≤ l) (hl2 : l ≤ 14) (hl' : 5 ≤ l') (hl2' : l' ≤ 14) :
    Calls Try.prog 92 #[.pointer (some ⟨B, 0, none⟩), .agg #[.int .i64 b, .int .i64 l, .int .i64 (255 - (q : Int)), .bool false, .bool false, .bool false]] w fun e w' => e = .returned (.tuple #[]) ∧ Holds w' B (if cm l q l' q' then some (b, l, q) else some (b', l', q')) ∧ Turn (fun j => j = B) w w' :=
  (offer_cmp B b l b' l' q q' w h hq hq' hl hl2 hl' hl2').mono fun e w' he => ⟨he.1, by
    have := he.2.1
    cases hc : cm l q l' q'
    · rw [hc] at this; exact this
    · rw [hc] at this; exact this, he.2.2⟩

/-- the state behind j parts of Log l -/
def stJ (s : St) (b l : Int) (i0 j : Nat) : St := if 8 ≤ l ∨ j = 8 then keep s b l (runq i0 j) else s

theorem stJ_zero (s : St) (b l P : Int) (hP : (2:Int)^(l - 3).toNat = P) (i0 : Nat) (h0 : i0 < 8) (hs : 0 ≤ sCnt s) : stJ s b l i0 0 = s := by
  unfold stJ keep
  rw [cnt_run l P hP i0 0 h0 (by omega)]
  simp
  omega

/-- what an offer of part j + 1 makes of the state -/
theorem offer_step (B : Nat) (s : St) (b l P : Int) (hP : (2:Int)^(l - 3).toNat = P) (hP0 : 0 < P) (i0 j : Nat) (w : World) (h0 : i0 < 8) (hj : i0 + j < 8) (hl : 5 ≤ l) (hl2 : l ≤ 14) (hs : StOk s l) (hs0 : 0 ≤ sCnt s) (h8 : 8 ≤ l ∨ j + 1 = 8) (h : Holds w B (stJ s b l i0 j)) :
    Calls Try.prog 92 #[.pointer (some ⟨B, 0, none⟩), .agg #[.int .i64 b, .int .i64 l, .int .i64 (255 - (runq i0 (j + 1) : Int)), .bool false, .bool false, .bool false]] w fun e w' => e = .returned (.tuple #[]) ∧ Holds w' B (stJ s b l i0 (j + 1)) ∧ Turn (fun j => j = B) w w' := by
  have hq1 := runq_lt i0 h0 (j + 1) (by omega) (by omega)
  have hc1 := cnt_run l P hP i0 (j + 1) h0 (by omega)
  have hc0 := cnt_run l P hP i0 j h0 (by omega)
  have hmul : ((j + 1 : Nat) : Int) * P = (j : Int) * P + P := by rw [Int.natCast_add, Int.add_mul]; simp
  have hjP : 0 ≤ (j : Int) * P := Int.mul_nonneg (by omega) (by omega)
  have e1 : stJ s b l i0 (j + 1) = keep s b l (runq i0 (j + 1)) := by unfold stJ; rw [if_pos h8]
  rw [e1]
  by_cases hk : 8 ≤ l ∧ sCnt s < cnt l (runq i0 j)
  · have e0 : stJ s b l i0 j = some (b, l, runq i0 j) := by unfold stJ keep; rw [if_pos (Or.inl hk.1), if_pos hk.2]
    rw [e0] at h
    refine (offer_some B b l b l (runq i0 (j + 1)) (runq i0 j) w h hq1 (runq_lt i0 h0 j (by omega) (by omega)) hl hl2 hl hl2).mono fun e w' he => ?_
    have hcm : cm l (runq i0 (j + 1)) l (runq i0 j) = true := by unfold cm; rw [hc1, hc0, hmul]; simp; omega
    have ek : keep s b l (runq i0 (j + 1)) = some (b, l, runq i0 (j + 1)) := by unfold keep; rw [if_pos (by rw [hc1, hmul]; rw [hc0] at hk; omega)]
    rw [hcm] at he
    rw [ek]
    exact he
  · have e0 : stJ s b l i0 j = s := by
      unfold stJ
      by_cases h8' : 8 ≤ l
      · rw [if_pos (Or.inl h8')]
        unfold keep
        rw [if_neg (fun e => hk ⟨h8', e⟩)]
      · rw [if_neg (by omega)]
    rw [e0] at h
    match s, h, hs, hs0, hk with
    | none, h, _, _, _ =>
      have ek : keep none b l (runq i0 (j + 1)) = some (b, l, runq i0 (j + 1)) := by unfold keep; rw [if_pos (by rw [hc1, hmul]; simp [sCnt]; omega)]
      rw [ek]
      exact offer_none B b l (runq i0 (j + 1)) w h
    | some (b', l', q'), h, hs, hs0, hk =>
      obtain ⟨g1, g2, g3, g4⟩ := hs b' l' q' rfl
      refine (offer_some B b l b' l' (runq i0 (j + 1)) q' w h hq1 g3 hl hl2 g1 (by omega)).mono fun e w' he => ?_
      have hcm : cm l (runq i0 (j + 1)) l' q' = decide (cnt l' q' < cnt l (runq i0 (j + 1))) := by
        unfold cm
        rw [Bool.eq_iff_iff]
        simp
        intro _ h
        omega
      rw [hcm] at he
      by_cases hlt : cnt l' q' < cnt l (runq i0 (j + 1))
      · have ek : keep (some (b', l', q')) b l (runq i0 (j + 1)) = some (b, l, runq i0 (j + 1)) := by
          show (if cnt l' q' < cnt l (runq i0 (j + 1)) then some (b, l, runq i0 (j + 1)) else some (b', l', q')) = _
          rw [if_pos hlt]
        rw [ek]
        simp only [decide_eq_true hlt, if_true] at he
        exact he
      · have ek : keep (some (b', l', q')) b l (runq i0 (j + 1)) = some (b', l', q') := by
          show (if cnt l' q' < cnt l (runq i0 (j + 1)) then some (b, l, runq i0 (j + 1)) else some (b', l', q')) = _
          rw [if_neg hlt]
        rw [ek]
        simp only [decide_eq_false hlt] at he
        exact he
end Go.Proofs.Ythnelonbpbhhbab
