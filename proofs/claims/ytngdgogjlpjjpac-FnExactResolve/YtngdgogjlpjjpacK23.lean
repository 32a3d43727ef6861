import Derived.Test.YtngdgogjlpjjpacK22
namespace Go.Proofs.Ytngdgogjlpjjpac
open Go.RowKit
set_option linter.unusedVariables false
set_option linter.unusedSimpArgs false
set_option maxRecDepth 100000

/-- the number of words of a piece, -1 where there is none -/
def pcn (tn bn : Nat) (bl : List Bk) (b : Int) : Int := if b = -1 then (tn : Int) else if 0 ≤ b ∧ b < (bn : Int) then ((bl.getD b.toNat zB).2.1 : Int) else -1
/-- WHAT A PIECE IS: the piece's slice and true, or a slice and false. -/
def PiPost (w : World) (ta : Option Addr) (tn tc bn : Nat) (bl : List Bk) (b : Int) (e : Ending) (w' : World) : Prop :=
  ∃ a n c ok, e = .returned (.tuple #[.slice a n c, .bool ok]) ∧ ok = decide (0 ≤ pcn tn bn bl b) ∧ (ok = true → (n : Int) = pcn tn bn bl b) ∧ n ≤ maxLen ∧ Below w.heap.size w w'

set_option maxHeartbeats 2000000 in
theorem l4Piece_any (nm : ByteArray) (ta : Option Addr) (tn tc : Nat) (ba : Option Addr) (bn bc : Nat) (bl : List Bk) (v3 v5 v6 v7 : Value) (bss b : Int) (w : World) (htn : tn ≤ maxLen) (hb : BKS w ba bn bc bl) :
    Calls Try.prog 116 #[.agg #[.string nm, .slice ta tn tc, .slice ba bn bc, v3, .int .i64 bss, v5, v6, v7], .int .i64 b] w (PiPost w ta tn tc bn bl b) := by
  obtain ⟨W, hW⟩ : ∃ W, W = w.alloc (.cells #[.string nm, .slice ta tn tc, .slice ba bn bc, v3, .int .i64 bss, v5, v6, v7] 56) := ⟨_, rfl⟩
  have hB0 : Below w.heap.size w W := by rw [hW]; exact (Below.refl _ _).alloc (Nat.le_refl _) _
  have kb : Blk W w.heap.size #[.string nm, .slice ta tn tc, .slice ba bn bc, v3, .int .i64 bss, v5, v6, v7] 56 := by rw [hW]; exact Blk.new _ _ _
  obtain ⟨q0, q1, q2, q3, q4, q5, q6, q7⟩ := kb.eight
  have hb0 := hb.below hB0
  have hm2 := hb.2.1
  unfold maxLen at hm2
  have HW := hide hW
  clear hW
  by_cases c1 : b = -1
  · subst c1
    have HP := hide (show pcn tn bn bl (-1) = (tn : Int) from rfl)
    go_enter Try.func116, Try.ntmps116
    go_wp2_with (rw [← HW.out])
    go_ret2
    exact ⟨ta, tn, tc, true, rfl, by rw [HP.out]; simp, fun _ => HP.out.symm, htn, hB0⟩
  · have c1' : (b == -1) = false := by simpa using c1
    by_cases c2 : b < 0
    · have HP := hide (show pcn tn bn bl b = -1 by unfold pcn; rw [if_neg c1, if_neg (by omega)])
      go_enter Try.func116, Try.ntmps116
      go_wp2_with (rw [← HW.out])
      go_ret2
      exact ⟨_, 0, 0, false, rfl, by rw [HP.out]; rfl, (by intro h; cases h), Nat.zero_le _, by first | exact hB0.alloc hB0.size _ | exact hB0⟩
    · by_cases c3 : (bn : Int) ≤ b
      · have HP := hide (show pcn tn bn bl b = -1 by unfold pcn; rw [if_neg c1, if_neg (by omega)])
        go_enter Try.func116, Try.ntmps116
        go_wp2_with (rw [← HW.out])
        go_ret2
        exact ⟨_, 0, 0, false, rfl, by rw [HP.out]; rfl, (by intro h; cases h), Nat.zero_le _, by first | exact hB0.alloc hB0.size _ | exact hB0⟩
      · have c3' : b < (bn : Int) := by omega
        have HP := hide (show pcn tn bn bl b = ((bl.getD b.toNat zB).2.1 : Int) by unfold pcn; rw [if_neg c1, if_pos (by omega)])
        obtain ⟨bb, off, rfl⟩ := hb0.addr (by omega)
        have hck := hb0.at b.toNat (by omega)
        have hik := hb0.2.2.2.1 b.toNat (by omega)
        generalize bl.getD b.toNat zB = B at *
        obtain ⟨xa, xn, xc, xz⟩ := B
        dsimp only at hck hik HP
        have HM := hide hik.2.1
        clear hik
        have c2' : 0 ≤ b := by omega
        go_enter Try.func116, Try.ntmps116
        go_wp2_with (rw [← HW.out])
        go_ret2
        exact ⟨xa, xn, xc, true, rfl, by rw [HP.out]; simp, fun _ => HP.out.symm, HM.out, hB0⟩

set_option maxHeartbeats 2000000 in
theorem pieceOf_any (nm : ByteArray) (ta : Option Addr) (tn tc : Nat) (ba : Option Addr) (bn bc : Nat) (bl : List Bk) (v3 v5 v6 v7 : Value) (bss b : Int) (w : World) (htn : tn ≤ maxLen) (hb : BKS w ba bn bc bl) :
    Calls Try.prog 119 #[.agg #[.string nm, .slice ta tn tc, .slice ba bn bc, v3, .int .i64 bss, v5, v6, v7], .int .i64 b] w (PiPost w ta tn tc bn bl b) := by
  obtain ⟨W, hW⟩ : ∃ W, W = w.alloc (.cells #[.string nm, .slice ta tn tc, .slice ba bn bc, v3, .int .i64 bss, v5, v6, v7] 56) := ⟨_, rfl⟩
  have hB0 : Below w.heap.size w W := by rw [hW]; exact (Below.refl _ _).alloc (Nat.le_refl _) _
  have kb : Blk W w.heap.size #[.string nm, .slice ta tn tc, .slice ba bn bc, v3, .int .i64 bss, v5, v6, v7] 56 := by rw [hW]; exact Blk.new _ _ _
  obtain ⟨q0, q1, q2, q3, q4, q5, q6, q7⟩ := kb.eight
  have hb0 := hb.below hB0
  have hm2 := hb.2.1
  unfold maxLen at hm2
  have HW := hide hW
  clear hW
  by_cases c1 : b = -1
  · subst c1
    have HP := hide (show pcn tn bn bl (-1) = (tn : Int) from rfl)
    go_enter Try.func119, Try.ntmps119
    go_wp2_with (rw [← HW.out])
    go_ret2
    exact ⟨ta, tn, tc, true, rfl, by rw [HP.out]; simp, fun _ => HP.out.symm, htn, hB0⟩
  · have c1' : (b == -1) = false := by simpa using c1
    by_cases c2 : b < 0
    · have HP := hide (show pcn tn bn bl b = -1 by unfold pcn; rw [if_neg c1, if_neg (by omega)])
      go_enter Try.func119, Try.ntmps119
      go_wp2_with (rw [← HW.out])
      go_ret2
      exact ⟨_, 0, 0, false, rfl, by rw [HP.out]; rfl, (by intro h; cases h), Nat.zero_le _, by first | exact hB0.alloc hB0.size _ | exact hB0⟩
    · by_cases c3 : (bn : Int) ≤ b
      · have HP := hide (show pcn tn bn bl b = -1 by unfold pcn; rw [if_neg c1, if_neg (by omega)])
        go_enter Try.func119, Try.ntmps119
        go_wp2_with (rw [← HW.out])
        go_ret2
        exact ⟨_, 0, 0, false, rfl, by rw [HP.out]; rfl, (by intro h; cases h), Nat.zero_le _, by first | exact hB0.alloc hB0.size _ | exact hB0⟩
      · have c3' : b < (bn : Int) := by omega
        have HP := hide (show pcn tn bn bl b = ((bl.getD b.toNat zB).2.1 : Int) by unfold pcn; rw [if_neg c1, if_pos (by omega)])
        obtain ⟨bb, off, rfl⟩ := hb0.addr (by omega)
        have hck := hb0.at b.toNat (by omega)
        have hik := hb0.2.2.2.1 b.toNat (by omega)
        generalize bl.getD b.toNat zB = B at *
        obtain ⟨xa, xn, xc, xz⟩ := B
        dsimp only at hck hik HP
        have HM := hide hik.2.1
        clear hik
        have c2' : 0 ≤ b := by omega
        go_enter Try.func119, Try.ntmps119
        go_wp2_with (rw [← HW.out])
        go_ret2
        exact ⟨xa, xn, xc, true, rfl, by rw [HP.out]; simp, fun _ => HP.out.symm, HM.out, hB0⟩
end Go.Proofs.Ytngdgogjlpjjpac
