import Derived.Test.YthnelonbpbhhbabAl4
import Derived.Test.YthnelonbpbhhbabAl5
namespace Go.Proofs.Ythnelonbpbhhbab
open Go.RowKit
set_option linter.unusedVariables false

set_option maxHeartbeats 400000 in
theorem szRegionS_any (a : Option Addr) (n cap : Nat) (l : Int) (w : World) (h0 : 0 ≤ l) (h1 : l ≤ 1048576) (hn : n ≤ maxLen) :
    Calls Try.prog 26 #[.slice a n cap, .int .i64 l] w fun e w' => e = .returned (.int .i64 (if l < n then -1 else l - n)) ∧ w' = w := by
  unfold maxLen at hn
  by_cases h : l < n
  · go_enter Try.func26, Try.ntmps26
    go_wp2
    go_ret
    exact ⟨rfl, rfl⟩
  · go_enter Try.func26, Try.ntmps26
    go_wp2
    go_ret
    exact ⟨rfl, rfl⟩

theorem szRegionS_lo (a : Option Addr) (n cap : Nat) (l : Int) (w : World) (h0 : 0 ≤ l) (h1 : l ≤ 1048576) (hn : n ≤ maxLen) (h : l < n) :
    Calls Try.prog 26 #[.slice a n cap, .int .i64 l] w fun e w' => e = .returned (.int .i64 (-1)) ∧ w = w' :=
  (szRegionS_any a n cap l w h0 h1 hn).mono fun e w' he => ⟨by rw [he.1, if_pos h], he.2.symm⟩
theorem szRegionS_hi (a : Option Addr) (n cap : Nat) (l : Int) (w : World) (h0 : 0 ≤ l) (h1 : l ≤ 1048576) (hn : n ≤ maxLen) (h : n ≤ l) :
    Calls Try.prog 26 #[.slice a n cap, .int .i64 l] w fun e w' => e = .returned (.int .i64 (l - n)) ∧ w = w' :=
  (szRegionS_any a n cap l w h0 h1 hn).mono fun e w' he => ⟨by rw [he.1, if_neg (by omega)], he.2.symm⟩


set_option maxHeartbeats 1000000 in
theorem toRegionS_any (x : Option Addr) (n cap : Nat) (rs : List Rg) (w : World) (h : RS w x n cap rs) (hn : n ≤ 1048576) :
    Calls Try.prog 28 #[.slice x n cap] w fun e w' => ∃ g, w.heap.size ≤ g ∧ e = .returned (.slice (some ⟨g, 0, none⟩) n n) ∧ RowR w' g rs ∧ Below w.heap.size w w' := by
  obtain ⟨i0, hi, hz0, hz1, hz2⟩ := info_parts infoR
  have hl := h.1
  go_enter Try.func28, Try.ntmps28
  go_wp2_with (at_make; refine wpList_make_full _ rfl _ _ 25 rfl w.heap.size 30 i0 (.agg #[.int .i64 0, .int .i64 0, .int .i64 0, .bool false, .bool false, .bool false]) 6 Try.underlying25 hi hz0 hz1 .i64 .i64 _ _ n rfl rfl rfl rfl (by rw [hz2]; omega) (by unfold maxLen; omega) (Nat.le_refl _) ?_; intro w1 hown hgr)
  have hrow := rowR_of_made hown
  have hbel := below_grown hgr
  clear hown hgr hi hz0 hz1 hz2
  go_loopw [4] (fun i wr => ∃ k : Nat, k ≤ n ∧ i = .int .i64 k ∧ RowR wr w.heap.size (midR rs k) ∧ Below w.heap.size w wr) (fun i _ => n - (intOf i).toNat)
  case atStart => exact ⟨0, Nat.zero_le _, rfl, by rw [midR_zero, hl]; exact hrow, hbel⟩
  case round =>
    obtain ⟨k, hk, rfl, hR, hB⟩ := hrel
    clear hrow hbel
    by_cases hlt : k < n
    · have hlt' : (k : Int) < (n : Int) := by omega
      obtain ⟨b, off, rfl⟩ := h.some (by omega)
      have hat := (h.below hB).at k hlt
      have hset : ∀ W, Below wr.heap.size wr W → RowR (set6 W w.heap.size (k * 6) (rs.getD k z6)) w.heap.size (midR rs (k + 1)) := by
        intro W hW
        have := (hR.below hW).set k (by rw [midR_len]; omega) (rs.getD k z6)
        rw [midR_set rs k (by omega)] at this
        exact this
      have HSET := hide hset
      clear hset
      have hg := hR.2 k (by rw [midR_len]; omega)
      generalize rs.getD k z6 = r at *
      generalize (midR rs k).getD k z6 = r0 at *
      obtain ⟨g1, g2, g3, g4, g5, g6⟩ := r
      have q1 := hat.1
      have q2 := hat.2.1
      have q3 := hat.2.2.1
      have q4 := hat.2.2.2.1
      have q5 := hat.2.2.2.2.1
      have q6 := hat.2.2.2.2.2
      simp only at q1 q2 q3 q4 q5 q6
      go_wp2_with fail
      refine (toRegion_any g1 g2 g3 g4 g5 g6 _).mono ?_
      rintro e w2 ⟨rfl, hb2⟩
      have hB2 := hB.trans (hb2.mono hB.size)
      have hg2 := hg.below hb2
      have hfz : ∀ i, w2.frozen? ⟨w.heap.size, i, none⟩ = false := (hR.below hb2).frozen
      have HS2 := hide (HSET.out _ hb2)
      have HB2 := hide (set6_below hB2 (Nat.le_refl _) (k * 6) (g1, g2, g3, g4, g5, g6))
      clear HSET hR q1 q2 q3 q4 q5 q6 hat
      obtain ⟨p1, p2, p3, p4, p5, p6⟩ := hg2
      go_wp2
      go_roundw
      case rel => exact ⟨k + 1, by omega, by go_num, HS2.out, HB2.out⟩
      case measure => simp [intOf]; omega
    · have e : Hid (k = n) := by show k = n; omega
      go_wp2
      go_ret
      exact ⟨_, Nat.le_refl _, rfl, by rw [e.out, ← hl, midR_all] at hR; exact hR, hB⟩
end Go.Proofs.Ythnelonbpbhhbab
