import Derived.Test.YthnelonbpbhhbabDr5
import Derived.Test.YthnelonbpbhhbabAl4
import Derived.Test.YthnelonbpbhhbabAl6
import Derived.Test.YthnelonbpbhhbabAl7
namespace Go.Proofs.Ythnelonbpbhhbab
open Go.RowKit
set_option linter.unusedVariables false
set_option maxRecDepth 100000

set_option maxHeartbeats 1000000 in
theorem span_any (b l o : Int) (r x y : Bool) (w : World) (h0 : 0 ≤ l) (h1 : l ≤ 20) :
    Calls Try.prog 32 #[.agg #[.int .i64 b, .int .i64 l, .int .i64 o, .bool r, .bool x, .bool y]] w fun e w' => e = .returned (.tuple #[.int .i64 b, .int .i64 ((2:Int)^l.toNat)]) ∧ Below w.heap.size w w' := by
  go_enter Try.func32, Try.ntmps32
  go_wp2
  go_quiet ((go_at_call 43; exact Calls.quiet_of_same (l2Power_any _ (by omega) (by omega) _)))
  go_wp2
  go_ret2
  exact ⟨rfl, below_drewN ((Below.refl _ _).alloc (Nat.le_refl _) _) _⟩

/-- does the address lie in a valid region's stretch? -/
def insp (g : Rg) (a : Int) : Bool := gok g && decide (g.1 ≤ a ∧ a < g.1 + (2:Int)^g.2.1.toNat)
def anyTo (rs : List Rg) (a : Int) : Nat → Bool
  | 0 => false
  | j + 1 => anyTo rs a j || insp (rs.getD j z6) a
theorem any_mono (rs : List Rg) (a : Int) (j : Nat) : ∀ d, anyTo rs a j = true → anyTo rs a (j + d) = true
  | 0, h => h
  | d + 1, h => by rw [← Nat.add_assoc, anyTo, any_mono rs a j d h]; rfl
theorem one_any {n : Nat} (rs : List Rg) (a k : Int) (hok : okTo rs n) : ∀ m, m ≤ n → oneTo rs a k m = true → anyTo rs a m = true
  | 0, _, h => by simp [oneTo] at h
  | m + 1, hm, h => by
    rw [oneTo] at h
    rw [anyTo]
    cases hh : ghas (rs.getD m z6) a
    · rw [hh] at h
      simp at h
      rw [one_any rs a k hok m (by omega) h]
      rfl
    · have h2 := hh
      simp [ghas, hs] at h2
      have : insp (rs.getD m z6) a = true := by
        unfold insp
        rw [hok m (by omega)]
        simp
        exact ⟨h2.1, h2.2.1⟩
      rw [this]
      simp
theorem alw_any (rs : List Rg) (n : Nat) (a s k : Int) (ha : wfi a) (h : alw rs n a s k = true) : anyTo rs a n = true := by
  simp only [alw, Bool.and_eq_true, decide_eq_true_eq] at h
  obtain ⟨h8, hs, hok, hup⟩ := h
  have h0 : 0 < s.toNat := by simp [wd] at hs; omega
  have h1 := upB_iff.1 hup 0 h0
  have e : wrap64 (a + ((0 : Nat) : Int)) = a := by
    obtain ⟨a0, a1⟩ := ha
    unfold wrap64
    omega
  rw [e] at h1
  exact one_any rs a k (okB_iff.1 hok) n (Nat.le_refl _) h1

set_option maxHeartbeats 4000000 in
theorem fnAllowed_walk (a : Option Addr) (n c : Nat) (zs : List Int) (w : World) (h : BS w a n c zs) :
    Calls Try.prog 7 #[.slice a n c] w fun e w' => e = .returned (.bool true) ∧ Below w.heap.size w w' := by
  have hmx := h.2.1
  unfold maxLen at hmx
  by_cases hbig : (1048576 : Int) < (n : Int)
  · go_enter Try.func7, Try.ntmps7
    go_wp2
    go_ret
    exact ⟨rfl, Below.refl _ _⟩
  · go_enter Try.func7, Try.ntmps7
    go_wp2_with fail
    refine (drawAllowed_any a n c zs _ h).mono ?_
    rintro e w1 ⟨x, m, cap, rs, p, s, k, rfl, hm, hO, hp, hs, hk, hB1⟩
    have hS := or_rs hO
    clear h hO
    go_wp2_with fail
    refine (iAllowed_any x m cap rs p s k _ hS hp).mono ?_
    obtain ⟨r, hr⟩ : ∃ r, r = alw rs m p s k := ⟨_, rfl⟩
    rw [← hr]
    have HR := hide hr
    clear hr
    rintro e w2 ⟨rfl, hb2⟩
    have hS := hS.below hb2
    have hB2 := hB1.trans (hb2.mono hB1.size)
    clear hb2 hB1
    go_wp2_with fail
    refine (sAllowed_any x m cap rs p s k _ hS hp).mono ?_
    rw [← HR.out]
    rintro e w3 ⟨rfl, hb3⟩
    have hS := hS.below hb3
    have hB3 := hB2.trans (hb3.mono hB2.size)
    clear hb3 hB2
    have hne : (r != r) = false := by simp
    have hp' := hp
    obtain ⟨hp0, hp1⟩ := hp'
    go_wp2
    go_loopw [8, 9] (fun y i wr => ∃ j : Nat, j ≤ m ∧ i = .int .i64 j ∧ y = .bool (anyTo rs p j) ∧ Below w3.heap.size w3 wr) (fun _ i _ => m - (intOf i).toNat)
    case atStart => exact ⟨0, Nat.zero_le _, rfl, rfl, Below.refl _ _⟩
    case round =>
      obtain ⟨j, hj, rfl, rfl, hB⟩ := hrel
      by_cases hlt : j < m
      · have hlt' : (j : Int) < (m : Int) := by omega
        obtain ⟨b, off, rfl⟩ := hS.some (by omega)
        have hat := (hS.below hB).at j hlt
        have hw := hS.2.2.1 (rs.getD j z6) (by simp [List.getD_eq_getElem?_getD, show j < rs.length by have := hS.1; omega])
        have hstep : anyTo rs p (j + 1) = (anyTo rs p j || insp (rs.getD j z6) p) := rfl
        generalize rs.getD j z6 = g at *
        obtain ⟨g1, g2, g3, g4, g5, g6⟩ := g
        have HW := hide (wfl hw.1)
        clear hw
        generalize anyTo rs p j = Y at *
        have HS := hide hstep
        clear hstep
        have q1 := hat.1
        have q2 := hat.2.1
        have q3 := hat.2.2.1
        have q4 := hat.2.2.2.1
        have q5 := hat.2.2.2.2.1
        have q6 := hat.2.2.2.2.2
        simp only at q1 q2 q3 q4 q5 q6
        have HAT := hide hat
        clear hat
        go_wp2
        go_region_held3 (fun w' => w'.cell? ⟨b, off + j * 6, none⟩ = some (.int .i64 g1) ∧ w'.cell? ⟨b, off + j * 6 + 1, none⟩ = some (.int .i64 g2) ∧ w'.cell? ⟨b, off + j * 6 + 2, none⟩ = some (.int .i64 g3) ∧ w'.cell? ⟨b, off + j * 6 + 3, none⟩ = some (.bool g4) ∧ w'.cell? ⟨b, off + j * 6 + 4, none⟩ = some (.bool g5) ∧ w'.cell? ⟨b, off + j * 6 + 5, none⟩ = some (.bool g6)) (go_keep)
          (first
            | (go_at_call 12; refine (iRegionOk_any g1 g2 g3 g4 g5 g6 _ HW.out).mono ?_; rintro e w4 ⟨rfl, hb4⟩; replace hb4 := undrew hb4; obtain ⟨q1, q2, q3, q4, q5, q6⟩ := HAT.out.below hb4)
            | (go_at_call 31; refine (sRegionOk_any g1 g2 g3 g4 g5 g6 _ HW.out).mono ?_; rintro e w5 ⟨rfl, hb5⟩; replace hb5 := hb4.trans (hb5.mono hb4.size); obtain ⟨q1, q2, q3, q4, q5, q6⟩ := HAT.out.below hb5))
        have hat5 := HAT.out.below hb5
        have hB5 := hB.trans (hb5.mono hB.size)
        have hnr : (rok g1 g2 g3 != rok g1 g2 g3) = false := by simp
        clear hb4 hb5 q1 q2 q3 q4 q5 q6 HAT
        have q1 := hat5.1
        have q2 := hat5.2.1
        have q3 := hat5.2.2.1
        have q4 := hat5.2.2.2.1
        have q5 := hat5.2.2.2.2.1
        have q6 := hat5.2.2.2.2.2
        simp only at q1 q2 q3 q4 q5 q6
        have HAT := hide hat5
        clear hat5
        go_wp2_with fail
        refine (sRegionOk_any g1 g2 g3 g4 g5 g6 _ HW.out).mono ?_
        rintro e w6 ⟨rfl, hb6⟩
        have hat6 := HAT.out.below hb6
        have hB6 := hB5.trans (hb6.mono hB5.size)
        clear hb6 hB5 q1 q2 q3 q4 q5 q6 HAT hnr
        cases hr : rok g1 g2 g3
        · have HI := hide (show insp (g1, g2, g3, g4, g5, g6) p = false from by unfold insp gok; rw [hr]; rfl)
          clear hr
          go_wp2
          go_roundw
          case rel => exact ⟨j + 1, by omega, by go_num, by rw [HS.out, HI.out, Bool.or_false], hB6⟩
          case measure => simp [intOf]; omega
        · obtain ⟨e1, e2, e3, e4, e5, e6, e7⟩ := rok_parts hr
          have hp2 := pow_lt g2.toNat (by omega)
          have hp20 := pow_pos g2.toNat
          have HI := hide (show insp (g1, g2, g3, g4, g5, g6) p = decide (g1 ≤ p ∧ p < g1 + (2:Int)^g2.toNat) from by unfold insp gok; rw [hr]; rfl)
          clear hr
          have q1 := hat6.1
          have q2 := hat6.2.1
          have q3 := hat6.2.2.1
          have q4 := hat6.2.2.2.1
          have q5 := hat6.2.2.2.2.1
          have q6 := hat6.2.2.2.2.2
          simp only at q1 q2 q3 q4 q5 q6
          go_wp2_with fail
          refine (span_any g1 g2 g3 g4 g5 g6 _ (by omega) (by omega)).mono ?_
          generalize (2:Int)^g2.toNat = P at *
          rintro e w7 ⟨rfl, hb7⟩
          have hB7 := hB6.trans (hb7.mono hB6.size)
          clear hb7 hB6 q1 q2 q3 q4 q5 q6 hat6
          cases Y
          · by_cases c1 : g1 ≤ p
            · have HI2 := hide (show decide (g1 ≤ p ∧ p < g1 + P) = decide (p < g1 + P) from by simp [c1])
              go_wp2
              go_roundw
              case rel => exact ⟨j + 1, by omega, by go_num, by rw [HS.out, HI.out, HI2.out]; rfl, hB7⟩
              case measure => simp [intOf]; omega
            · have HI2 := hide (show decide (g1 ≤ p ∧ p < g1 + P) = false from by simp [c1])
              go_wp2
              go_roundw
              case rel => exact ⟨j + 1, by omega, by go_num, by rw [HS.out, HI.out, HI2.out]; rfl, hB7⟩
              case measure => simp [intOf]; omega
          · go_wp2
            go_roundw
            case rel => exact ⟨j + 1, by omega, by go_num, by rw [HS.out]; rfl, hB7⟩
            case measure => simp [intOf]; omega
      · have hjm : j = m := by omega
        have hfin : r = true → anyTo rs p j = true := by
          intro e
          rw [hjm]
          exact alw_any rs m p s k hp (by rw [← HR.out]; exact e)
        generalize anyTo rs p j = Y at *
        have hBB := hB3.trans (hB.mono hB3.size)
        cases Y
        · have hrf : r = false := by cases r; rfl; exact absurd (hfin rfl) (by simp)
          subst hrf
          clear hfin HR
          go_wp2
          go_ret
          exact ⟨rfl, hBB⟩
        · clear hfin
          go_wp2
          go_ret
          exact ⟨rfl, hBB⟩
end Go.Proofs.Ythnelonbpbhhbab
