import Derived.Test.YthnelonbpbhhbabAl4
import Derived.Test.YthnelonbpbhhbabAl6
import Derived.Test.YthnelonbpbhhbabAl7
namespace Go.Proofs.Ythnelonbpbhhbab
open Go.RowKit
set_option linter.unusedVariables false

set_option maxHeartbeats 1000000 in
theorem exactAllowed_walk (x : Option Addr) (n cap : Nat) (rs : List Rg) (a s k : Int) (w : World) (h : RS w x n cap rs) (ha : wfi a) :
    Calls Try.prog 6 #[.slice x n cap, .int .i64 a, .int .i64 s, .int .i64 k] w fun e w' => e = .returned (.bool true) ∧ Below w.heap.size w w' := by
  have hmx := h.2.1
  have S1 : rs.length ≤ maxLen ∧ (∀ g ∈ rs, wfi g.1 ∧ wfi g.2.1 ∧ wfi g.2.2.1) ∧ rs.length = n := ⟨by rw [h.1]; exact hmx, h.2.2.1, h.1⟩
  have S1 := hide S1
  by_cases hs : (1048576 : Int) < (n : Int)
  · go_enter Try.func6, Try.ntmps6
    go_wp2_with fail
    refine (szRegionS_lo x n cap _ _ (by omega) (by omega) hmx hs).mono ?_
    rintro e w1 ⟨rfl, rfl⟩
    go_wp2
    go_ret
    exact ⟨rfl, Below.refl _ _⟩
  · have hn : n ≤ 1048576 := by omega
    go_enter Try.func6, Try.ntmps6
    go_wp2_with fail
    refine (szRegionS_hi x n cap _ _ (by omega) (by omega) hmx (by omega)).mono ?_
    rintro e w1 ⟨rfl, rfl⟩
    go_wp2_with fail
    refine (toRegionS_any x n cap rs _ h hn).mono ?_
    rintro e w1 ⟨g1, _, rfl, r1, hB1⟩
    go_wp2_with fail
    refine (sAllowed_any _ n n rs a s k _ (r1.rs S1.out.1 S1.out.2.1 _ _ S1.out.2.2) ha).mono ?_
    generalize hv : alw rs n a s k = r
    have HV := hide hv
    clear hv
    rintro e w2 ⟨rfl, hb2⟩
    have hB2 := hB1.trans (hb2.mono hB1.size)
    clear hb2 hB1 r1
    go_wp2_with fail
    refine (toRegionS_any x n cap rs _ (h.below hB2) hn).mono ?_
    rintro e w3 ⟨g3, _, rfl, r3, hb3⟩
    have hB3 := hB2.trans (hb3.mono hB2.size)
    clear hb3 hB2
    go_wp2_with fail
    refine (iAllowed_any _ n n rs a s k _ (r3.rs S1.out.1 S1.out.2.1 _ _ S1.out.2.2) ha).mono ?_
    rw [HV.out]
    rintro e w4 ⟨rfl, hb4⟩
    have hB4 := hB3.trans (hb4.mono hB3.size)
    have r4 := r3.below hb4
    clear hb4 hB3 r3
    have hne : (r != r) = false := by simp
    go_wp2_with fail
    refine (toRegionS_any x n cap rs _ (h.below hB4) hn).mono ?_
    rintro e w5 ⟨g5, _, rfl, r5, hb5⟩
    have hB5 := hB4.trans (hb5.mono hB4.size)
    have r4 := r4.below hb5
    clear hb5 hB4
    go_wp2_with fail
    refine (eqRegionS_same _ _ n n n rs _ (r4.rs S1.out.1 S1.out.2.1 _ _ S1.out.2.2) (r5.rs S1.out.1 S1.out.2.1 _ _ S1.out.2.2)).mono ?_
    rintro e w6 ⟨rfl, hb6⟩
    go_wp2
    go_ret
    exact ⟨rfl, hB5.trans (hb6.mono hB5.size)⟩
end Go.Proofs.Ythnelonbpbhhbab
