import Derived.Test.YthnelonbpbhhbabCv4
namespace Go.Proofs.Ythnelonbpbhhbab
open Go.RowKit
set_option linter.unusedVariables false

def baseOf (a l : Int) : Int := a - a % (2:Int)^l.toNat
def i0Of (a l : Int) : Nat := ((a % (2:Int)^l.toNat) / (2:Int)^(l - 3).toNat).toNat
def jOf (a en l : Int) : Nat := min (8 - i0Of a l) ((en - a) / (2:Int)^(l - 3).toNat).toNat
/-- THE PARTS that the best region of Log l has. -/
def qOf (a en l : Int) : Nat :=
  if l < 8 then (if a % (2:Int)^l.toNat = 0 ∧ a + (2:Int)^l.toNat ≤ en then 255 else 0)
  else if a % (2:Int)^(l - 3).toNat = 0 then runq (i0Of a l) (jOf a en l) else 0

theorem cnt_zero (l : Int) : cnt l 0 = 0 := by simp [cnt, popc]
theorem keep_zero (s : St) (b l : Int) (h : 0 ≤ sCnt s) : keep s b l 0 = s := by
  unfold keep
  rw [cnt_zero, if_neg (by omega)]

theorem parts (a l P N : Int) (hl : 5 ≤ l) (hl2 : l ≤ 14) (hP : (2:Int)^(l - 3).toNat = P) (hN : (2:Int)^l.toNat = N) (ha : 0 ≤ a) (ha2 : a < 262144) :
    N = 8 * P ∧ 4 ≤ P ∧ P ≤ 2048 ∧ (a % N) % P = a % P ∧ i0Of a l < 8 ∧ (a % P = 0 → a % N = (i0Of a l : Int) * P) ∧ (a - baseOf a l) / P = (i0Of a l : Int) := by
  obtain ⟨p4, p5⟩ := pow_four l hl hl2
  have hNP := pow_split l hl
  rw [hP, hN] at hNP
  rw [hP] at p4 p5
  obtain ⟨b0, b1, b2, b3, b4⟩ := base_ok a l N hl hl2 hN ha ha2
  have hd : (a % N) % P = a % P := by rw [hNP, Int.emod_emod_of_dvd a (Int.dvd_mul_left 8 P)]
  have h0 : 0 ≤ (a % N) / P := Int.ediv_nonneg b3 (by omega)
  have h8 : (a % N) / P < 8 := Int.ediv_lt_of_lt_mul (by omega) (by omega)
  have hi : ((i0Of a l : Nat) : Int) = (a % N) / P := by unfold i0Of; rw [hP, hN]; omega
  refine ⟨hNP, p4, p5, hd, by omega, fun hm => ?_, ?_⟩
  · have e2 := Int.mul_ediv_add_emod (a % N) P
    rw [hd, hm, ← hi, Int.mul_comm] at e2
    omega
  · unfold baseOf
    rw [hN, hi]
    congr 1
    omega

theorem j_is (a en l P N : Int) (hl : 5 ≤ l) (hl2 : l ≤ 14) (hP : (2:Int)^(l - 3).toNat = P) (hN : (2:Int)^l.toNat = N) (ha : 0 ≤ a) (hae : a < en) (hen : en ≤ 262144) (hm : a % P = 0) (j : Nat) (h1 : i0Of a l + j ≤ 8)
    (h2 : baseOf a l + ((i0Of a l + j : Nat) : Int) * P ≤ en ∨ j = 0) (h3 : i0Of a l + j = 8 ∨ en < baseOf a l + (((i0Of a l + j : Nat) : Int) + 1) * P) : j = jOf a en l ∧ a + (j : Int) * P ≤ en := by
  obtain ⟨g1, g2, g3, g4, g5, g6, g7⟩ := parts a l P N hl hl2 hP hN ha (by omega)
  have hb : baseOf a l = a - a % N := by unfold baseOf; rw [hN]
  have e1 : ((i0Of a l + j : Nat) : Int) * P = (i0Of a l : Int) * P + (j : Int) * P := by rw [Int.natCast_add, Int.add_mul]
  have e2 : (((i0Of a l + j : Nat) : Int) + 1) * P = (i0Of a l : Int) * P + (j : Int) * P + P := by rw [Int.add_mul, e1]; omega
  rw [hb, g6 hm, e1] at h2
  rw [hb, g6 hm, e2] at h3
  have hjP : a + (j : Int) * P ≤ en := by
    rcases h2 with h | h
    · omega
    · subst h; simp; omega
  have hd : (j : Int) ≤ (en - a) / P := Int.le_ediv_of_mul_le (by omega) (by omega)
  refine ⟨?_, hjP⟩
  unfold jOf
  rw [hP]
  rcases h3 with h | h
  · omega
  · have : (en - a) / P < (j : Int) + 1 := Int.ediv_lt_of_lt_mul (by omega) (by rw [Int.add_mul]; omega)
    omega

theorem behind_keep (s s' : St) (a en l P N : Int) (hl : 5 ≤ l) (hl2 : l ≤ 14) (hP : (2:Int)^(l - 3).toNat = P) (hN : (2:Int)^l.toNat = N) (ha : 0 ≤ a) (hae : a < en) (hen : en ≤ 262144) (hs : 0 ≤ sCnt s)
    (h : BehindP s a en l P (baseOf a l) (i0Of a l) s') : s' = keep s (baseOf a l) l (qOf a en l) := by
  obtain ⟨g1, g2, g3, g4, g5, g6, g7⟩ := parts a l P N hl hl2 hP hN ha (by omega)
  rcases h with ⟨hm, rfl⟩ | ⟨hm, j, h1, h2, h3, rfl⟩
  · have hq : qOf a en l = 0 := by
      unfold qOf
      rw [hP, hN]
      by_cases h8 : l < 8
      · rw [if_pos h8, if_neg]
        rintro ⟨h, _⟩
        rw [h] at g4
        simp at g4
        exact hm g4.symm
      · rw [if_neg h8, if_neg hm]
    rw [hq, keep_zero _ _ _ hs]
  · obtain ⟨hj, hjP⟩ := j_is a en l P N hl hl2 hP hN ha hae hen hm j h1 h2 h3
    have g6' := g6 hm
    unfold stJ qOf
    rw [hP, hN]
    by_cases h8 : l < 8
    · rw [if_pos h8]
      by_cases h88 : j = 8
      · have : i0Of a l = 0 := by omega
        rw [this] at g6'
        simp at g6'
        subst h88
        rw [if_pos (Or.inr rfl), if_pos ⟨g6', by omega⟩, this]
        rfl
      · rw [if_neg (by omega), if_neg, keep_zero _ _ _ hs]
        rintro ⟨k1, k2⟩
        rw [k1] at g6'
        have hi0 : i0Of a l = 0 := by
          have : (i0Of a l : Int) = 0 := by
            rcases Int.mul_eq_zero.1 g6'.symm with h | h
            · exact h
            · omega
          omega
        have hd : (8 : Int) ≤ (en - a) / P := Int.le_ediv_of_mul_le (by omega) (by omega)
        unfold jOf at hj
        rw [hP] at hj
        omega
    · rw [if_pos (Or.inl (by omega)), if_neg h8, if_pos hm, ← hj]

/-- THE CHOICE over n Logs from 5 on. -/
def cvFold (a en : Int) (n : Nat) : St :=
  if h : n = 0 then none else keep (cvFold a en (n - 1)) (baseOf a (5 + ((n - 1 : Nat) : Int))) (5 + ((n - 1 : Nat) : Int)) (qOf a en (5 + ((n - 1 : Nat) : Int)))
theorem cvFold_none (a en : Int) : cvFold a en 0 = none := by rw [cvFold, dif_pos rfl]
theorem cvFold_succ (a en : Int) (n : Nat) : cvFold a en (n + 1) = keep (cvFold a en n) (baseOf a (5 + n)) (5 + n) (qOf a en (5 + n)) := by
  rw [cvFold, dif_neg (by omega)]
  rfl

theorem cnt_nonneg (l : Int) (q : Nat) : 0 ≤ cnt l q := by
  unfold cnt
  exact Int.mul_nonneg (by omega) (Int.le_of_lt (pow_pos _))
theorem sCnt_nonneg (s : St) : 0 ≤ sCnt s := by
  match s with
  | none => exact Int.le_refl _
  | some (b, l, q) => exact cnt_nonneg l q
theorem qOf_lt (a en l : Int) (hl : 5 ≤ l) (hl2 : l ≤ 14) (ha : 0 ≤ a) (ha2 : a < 262144) : qOf a en l < 256 := by
  obtain ⟨g1, g2, g3, g4, g5, g6, g7⟩ := parts a l _ _ hl hl2 rfl rfl ha ha2
  unfold qOf
  split
  · split <;> omega
  · split
    · apply runq_lt _ g5 <;> (unfold jOf; omega)
    · omega
theorem cvFold_ok (a en : Int) (ha : 0 ≤ a) (ha2 : a < 262144) : ∀ n : Nat, n ≤ 10 → StOk (cvFold a en n) (5 + n)
  | 0, _ => fun b l q h => by rw [cvFold_none] at h; cases h
  | n + 1, hn => by
    have ih := cvFold_ok a en ha ha2 n (by omega)
    intro b l q h
    rw [cvFold_succ] at h
    unfold keep at h
    split at h
    · rename_i hlt
      simp at h
      obtain ⟨rfl, rfl, rfl⟩ := h
      refine ⟨by omega, by omega, qOf_lt a en _ (by omega) (by omega) ha ha2, ?_⟩
      have := sCnt_nonneg (cvFold a en n)
      omega
    · obtain ⟨k1, k2, k3, k4⟩ := ih b l q h
      exact ⟨k1, by omega, k3, k4⟩

set_option maxHeartbeats 2000000 in
theorem widest_any (a en : Int) (w : World) (ha : 0 ≤ a) (hae : a < en) (hen : en ≤ 262144) (b l : Int) (q : Nat) (hF : cvFold a en 10 = some (b, l, q)) :
    Calls Try.prog 41 #[.int .i64 a, .int .i64 en] w fun e w' => e = .returned (.agg #[.int .i64 b, .int .i64 l, .int .i64 (255 - (q : Int)), .bool false, .bool false, .bool false]) ∧ Below w.heap.size w w' := by
  have HF := hide hF
  clear hF
  have HA := hide (And.intro ha (And.intro hae hen))
  go_enter Try.func41, Try.ntmps41
  go_wp2
  go_loopw [6] (fun x wr => ∃ n : Nat, n ≤ 10 ∧ x = .int .i64 (5 + (n : Int)) ∧ Holds wr (w.heap.size + 1) (cvFold a en n) ∧ Blk wr w.heap.size #[.int .i64 0, .int .i64 0, .int .i64 0, .bool false, .bool false, .bool false] 30 ∧ Below w.heap.size w wr) (fun x _ => 15 - (intOf x).toNat)
  case atStart =>
    refine ⟨0, by omega, rfl, ?_, ?_, ?_⟩
    · rw [cvFold_none]
      have := Blk.new (w.alloc (.cells #[.int .i64 0, .int .i64 0, .int .i64 0, .bool false, .bool false, .bool false] 30)) #[.func (Fn.func 74) #[] #[], .bool false, .int .i64 0, .int .i64 0, .int .i64 0, .bool false, .bool false, .bool false] 96
      simp only [World.size_alloc] at this
      exact this
    · exact (Blk.new w _ _).alloc _
    · exact ((Below.refl _ _).alloc (Nat.le_refl _) _).alloc (by simp) _
  case round =>
    obtain ⟨n, hn, rfl, hH, hZ, hB⟩ := hrel
    have HH := hide hH
    have HB := hide hB
    have HZ := hide hZ
    clear hH hB hZ
    by_cases hlt : n < 10
    · have hsz := HB.out.size
      have HC := hide (offerRuns_any (w.heap.size + 1) (cvFold a en n) a en (5 + (n : Int)) _ _ _ (i0Of a (5 + (n : Int))) wr (by omega) (by omega) ha hae hen (cvFold_ok a en ha (by omega) n (by omega)) (sCnt_nonneg _) rfl rfl rfl (parts a (5 + (n : Int)) _ _ (by omega) (by omega) rfl rfl ha (by omega)).2.2.2.2.2.2 HH.out)
      go_wp2_with fail
      refine HC.out.mono ?_
      rintro e w1 ⟨rfl, ⟨s', hs', hb'⟩, t1⟩
      have hk := behind_keep _ _ a en (5 + (n : Int)) _ _ (by omega) (by omega) rfl rfl ha hae hen (sCnt_nonneg _) hb'
      have H1 := hide (show Holds w1 (w.heap.size + 1) (cvFold a en (n + 1)) from by rw [hk] at hs'; rw [cvFold_succ]; exact hs')
      have Z1 := hide (turn_blk t1 HZ.out (by omega))
      have B1 := hide (below_turn HB.out t1 (fun k e => by omega) hsz)
      clear hk hs' hb' t1 HC
      go_wp2_with fail
      go_roundw
      case rel => exact ⟨n + 1, by omega, by go_num, H1.out, Z1.out, B1.out⟩
      case measure => simp [intOf]; omega
    · have hn10 : n = 10 := by omega
      subst hn10
      rw [HF.out] at HH
      have HC := hide (Bst.cells HH.out)
      obtain ⟨q1, q2, q3, q4, q5, q6, q7, q8, q9⟩ := HC.out
      obtain ⟨p1, p2, p3, p4, p5, p6, p7⟩ := HZ.out.six'
      have HK := hide (Blk.set (Blk.set (Blk.set (Blk.set (Blk.set (Blk.set HZ.out 0 (.int .i64 b)) 1 (.int .i64 l)) 2 (.int .i64 (255 - (q : Int)))) 3 (.bool false)) 4 (.bool false)) 5 (.bool false))
      go_wp2
      refine bodyPost_ret (results_cell_row rfl _ _ w.heap.size 30 #[.int .i64 b, .int .i64 l, .int .i64 (255 - (q : Int)), .bool false, .bool false, .bool false] (0, 0) _ rfl (by exact HK.out) Try.underlying30 rfl (by kernel_rfl)) rfl ⟨rfl, ?_⟩
      exact (((((HB.out.setCell (Nat.le_refl _) _).setCell (Nat.le_refl _) _).setCell (Nat.le_refl _) _).setCell (Nat.le_refl _) _).setCell (Nat.le_refl _) _).setCell (Nat.le_refl _) _
end Go.Proofs.Ythnelonbpbhhbab
