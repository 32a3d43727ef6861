import Derived.Test.YthnelonbpbhhbabMem5
import Derived.Test.YthnelonbpbhhbabRd5
namespace Go.Proofs.Ythnelonbpbhhbab
open Go.RowKit
set_option linter.unusedVariables false

set_option maxHeartbeats 1000000 in
theorem exactRead_walk (a1 a2 a3 : Option Addr) (n1 c1 n2 c2 n3 c3 : Nat) (x1 x2 x3 : List Int) (p s : Int) (w : World) (h1 : BS w a1 n1 c1 x1) (h2 : BS w a2 n2 c2 x2) (h3 : BS w a3 n3 c3 x3) (hmax : p ≤ 9223372036854775807) :
    Calls Try.prog 4 #[.agg #[.slice a1 n1 c1, .slice a2 n2 c2, .slice a3 n3 c3], .int .i64 p, .int .i64 s] w fun e w' => e = .returned (.bool true) ∧ Below w.heap.size w w' := by
  have m1 := h1.2.1
  have m2 := h2.2.1
  have m3 := h3.2.1
  have hB0 : Below w.heap.size w (w.alloc (.cells #[.slice a1 n1 c1, .slice a2 n2 c2, .slice a3 n3 c3] 35)) := (Below.refl _ _).alloc (Nat.le_refl _) _
  have S1 : x1.length ≤ maxLen ∧ (∀ z ∈ x1, 0 ≤ z ∧ z ≤ 255) ∧ x1.length = n1 := ⟨by rw [h1.1]; exact m1, h1.2.2.1, h1.1⟩
  have S2 : x2.length ≤ maxLen ∧ (∀ z ∈ x2, 0 ≤ z ∧ z ≤ 255) ∧ x2.length = n2 := ⟨by rw [h2.1]; exact m2, h2.2.2.1, h2.1⟩
  have S3 : x3.length ≤ maxLen ∧ (∀ z ∈ x3, 0 ≤ z ∧ z ≤ 255) ∧ x3.length = n3 := ⟨by rw [h3.1]; exact m3, h3.2.2.1, h3.1⟩
  have S1 := hide S1
  have S2 := hide S2
  have S3 := hide S3
  by_cases hs : (1048576 : Int) < (n1 : Int) + n2 + n3
  · go_enter Try.func4, Try.ntmps4
    go_wp2_with fail
    refine (szMem_lo a1 a2 a3 n1 c1 n2 c2 n3 c3 _ _ (by omega) (by omega) m1 m2 m3 hs).mono ?_
    rintro e w1 ⟨rfl, hb1⟩
    go_wp2
    go_ret
    exact ⟨rfl, hB0.trans (hb1.mono (by simp))⟩
  · have hn : n1 + n2 + n3 ≤ 1048576 := by omega
    go_enter Try.func4, Try.ntmps4
    go_wp2_with fail
    refine (szMem_hi a1 a2 a3 n1 c1 n2 c2 n3 c3 _ _ (by omega) (by omega) m1 m2 m3 (by omega)).mono ?_
    rintro e w1 ⟨rfl, hb1⟩
    have k1 := (Blk.new w #[.slice a1 n1 c1, .slice a2 n2 c2, .slice a3 n3 c3] 35).below hb1
    have hB1 := hB0.trans (hb1.mono (by simp))
    clear hb1 hB0
    obtain ⟨q1, q2, q3, q4⟩ := k1.three
    go_wp2_with fail
    refine (toMem_any a1 a2 a3 n1 c1 n2 c2 n3 c3 x1 x2 x3 _ (h1.below hB1) (h2.below hB1) (h3.below hB1) hn).mono ?_
    rintro e w2 ⟨g1, g2, g3, rfl, _, _, _, s1, s2, s3, hb2⟩
    have k2 := k1.below hb2
    have hB2 := hB1.trans (hb2.mono hB1.size)
    clear hb2 hB1 k1 q1 q2 q3 q4
    go_wp2_with fail
    refine (sRead_any _ _ _ n1 n1 n2 n2 n3 n3 x1 x2 x3 p s _ (s1.bs S1.out.1 S1.out.2.1 _ _ S1.out.2.2) (s2.bs S2.out.1 S2.out.2.1 _ _ S2.out.2.2) hmax).mono ?_
    generalize hv : (rd n1 n2 n3 x1 x2 p s).1 = v
    generalize hf : (rd n1 n2 n3 x1 x2 p s).2 = f
    have HV := hide hv
    have HF := hide hf
    clear hv hf
    rintro e w3 ⟨rfl, hb3⟩
    have k3 := k2.below hb3
    have hB3 := hB2.trans (hb3.mono hB2.size)
    clear hb3 hB2 k2 s1 s2 s3
    obtain ⟨q1, q2, q3, q4⟩ := k3.three
    go_wp2_with fail
    refine (toMem_any a1 a2 a3 n1 c1 n2 c2 n3 c3 x1 x2 x3 _ (h1.below hB3) (h2.below hB3) (h3.below hB3) hn).mono ?_
    rintro e w4 ⟨g1, g2, g3, rfl, l1, l2, l3, r1, r2, r3, hb4⟩
    have k4 := k3.below hb4
    have hB4 := hB3.trans (hb4.mono hB3.size)
    clear hb4 hB3 k3 q1 q2 q3 q4
    have kx := Blk.new w4 #[.slice (some ⟨g1, 0, none⟩) n1 n1, .slice (some ⟨g2, 0, none⟩) n2 n2, .slice (some ⟨g3, 0, none⟩) n3 n3] 38
    have r1 := (r1.alloc (.cells #[.slice (some ⟨g1, 0, none⟩) n1 n1, .slice (some ⟨g2, 0, none⟩) n2 n2, .slice (some ⟨g3, 0, none⟩) n3 n3] 38))
    have r2 := (r2.alloc (.cells #[.slice (some ⟨g1, 0, none⟩) n1 n1, .slice (some ⟨g2, 0, none⟩) n2 n2, .slice (some ⟨g3, 0, none⟩) n3 n3] 38))
    have r3 := (r3.alloc (.cells #[.slice (some ⟨g1, 0, none⟩) n1 n1, .slice (some ⟨g2, 0, none⟩) n2 n2, .slice (some ⟨g3, 0, none⟩) n3 n3] 38))
    go_wp2_with fail
    refine (iRead_any _ _ _ n1 n1 n2 n2 n3 n3 x1 x2 x3 p s _ (r1.bs S1.out.1 S1.out.2.1 _ _ S1.out.2.2) (r2.bs S2.out.1 S2.out.2.1 _ _ S2.out.2.2) hmax).mono ?_
    rw [HV.out, HF.out]
    rintro e w5 ⟨rfl, hb5⟩
    have k5 := (k4.alloc (.cells #[.slice (some ⟨g1, 0, none⟩) n1 n1, .slice (some ⟨g2, 0, none⟩) n2 n2, .slice (some ⟨g3, 0, none⟩) n3 n3] 38)).below hb5
    have kx5 := kx.below hb5
    have r1 := r1.below hb5
    have r2 := r2.below hb5
    have r3 := r3.below hb5
    have hB5 := (hB4.alloc hB4.size (.cells #[.slice (some ⟨g1, 0, none⟩) n1 n1, .slice (some ⟨g2, 0, none⟩) n2 n2, .slice (some ⟨g3, 0, none⟩) n3 n3] 38)).trans (hb5.mono (by simp; have := hB4.size; omega))
    clear hb5 hB4 k4 kx
    have B1 := h1.below hB5
    have B2 := h2.below hB5
    have B3 := h3.below hB5
    obtain ⟨q1, q2, q3, q4⟩ := k5.three
    obtain ⟨q5, q6, q7, q8⟩ := kx5.three
    clear h1 h2 h3 k5
    have hne : (v != v) = false := by simp
    have hnf : (f != f) = false := by simp
    go_wp2_with fail
    go_region_with (first
      | (go_at_call 17; refine (toMem_any a1 a2 a3 n1 c1 n2 c2 n3 c3 x1 x2 x3 _ ?_ ?_ ?_ hn).mono ?_; exact B1; exact B2; exact B3; rintro e w6 ⟨u1, u2, u3, rfl, _, _, _, s1, s2, s3, hb6⟩; replace hb6 := undrew hb6; obtain ⟨q5, q6, q7, q8⟩ := (kx5.below hb6).three)
      | (go_at_call 19; refine (eqMem_same _ _ _ _ _ _ n1 n1 n2 n2 n3 n3 n1 n1 n2 n2 n3 n3 x1 x2 x3 _ ?_ ?_ ?_ ?_ ?_ ?_).mono ?_; exact (r1.below hb6).bs S1.out.1 S1.out.2.1 _ _ S1.out.2.2; exact (r2.below hb6).bs S2.out.1 S2.out.2.1 _ _ S2.out.2.2; exact (r3.below hb6).bs S3.out.1 S3.out.2.1 _ _ S3.out.2.2; exact s1.bs S1.out.1 S1.out.2.1 _ _ S1.out.2.2; exact s2.bs S2.out.1 S2.out.2.1 _ _ S2.out.2.2; exact s3.bs S3.out.1 S3.out.2.1 _ _ S3.out.2.2; rintro e w7 ⟨rfl, hb7⟩))
    all_goals
      go_wp2
      go_ret
      exact ⟨rfl, (hB5.trans (hb6.mono hB5.size)).trans (hb7.mono (Nat.le_trans hB5.size hb6.size))⟩
end Go.Proofs.Ythnelonbpbhhbab
