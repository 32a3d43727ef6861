import Derived.Test.YthnelonbpbhhbabAl3
namespace Go.Proofs.Ythnelonbpbhhbab
open Go.RowKit
set_option linter.unusedVariables false

set_option maxHeartbeats 1000000 in
theorem regionsOk_any (x : Option Addr) (n cap : Nat) (rs : List Rg) (w : World) (h : RS w x n cap rs) (F : Bool) (hF : F = (decide (n ≤ 8) && okB rs n)) :
    Calls Try.prog 46 #[.slice x n cap] w fun e w' => e = .returned (.bool F) ∧ Below w.heap.size w w' := by
  have hl := h.1
  have hmx := h.2.1
  unfold maxLen at hmx
  have HF := hide hF
  clear hF
  by_cases h8 : 8 < n
  · have h8' : (8:Int) < (n:Int) := by omega
    go_enter Try.func46, Try.ntmps46
    go_wp2
    go_ret
    exact ⟨ret_bool (by rw [HF.out]; simp [show ¬ n ≤ 8 by omega]), Below.refl _ _⟩
  · have h8' : ¬ (8:Int) < (n:Int) := by omega
    go_enter Try.func46, Try.ntmps46
    go_wp2
    go_loopw [10] (fun i wr => ∃ j : Nat, j ≤ n ∧ i = .int .i64 j ∧ okTo rs j ∧ Below w.heap.size w wr) (fun i _ => n - (intOf i).toNat)
    case atStart => exact ⟨0, Nat.zero_le _, rfl, fun i hi => absurd hi (by omega), Below.refl _ _⟩
    case round =>
      obtain ⟨j, hj, rfl, hok, hB⟩ := hrel
      by_cases hlt : j < n
      · obtain ⟨b, off, rfl⟩ := h.some (by omega)
        have hin : (j:Int) < (n:Int) := by omega
        have hbw : b < wr.heap.size := World.block_lt_of_cell? wr _ ((h.below hB).at j hlt).1
        have hat := (h.below hB).at j hlt
        have HOK := hide hok
        clear hok
        have hw1 := h.2.2.1 (rs.getD j z6) (by simp [List.getD_eq_getElem?_getD, show j < rs.length by omega])
        have hbad : gok (rs.getD j z6) = false → okB rs n = false := okB_false hlt
        have hgood : gok (rs.getD j z6) = true → okTo rs (j + 1) := okTo_succ HOK.out
        have HBAD := hide hbad
        have HGOOD := hide hgood
        clear hbad hgood
        generalize rs.getD j z6 = g at *
        obtain ⟨g1, g2, g3, g4, g5, g6⟩ := g
        have hw := wfl hw1.1
        clear hw1
        have q1 := hat.1
        have q2 := hat.2.1
        have q3 := hat.2.2.1
        have q4 := hat.2.2.2.1
        have q5 := hat.2.2.2.2.1
        have q6 := hat.2.2.2.2.2
        simp only at q1 q2 q3 q4 q5 q6

        have hBw : Below w.heap.size w wr := hB
        have hsz := hB.size
        go_wp2_with fail
        refine (iRegionOk_any g1 g2 g3 g4 g5 g6 _ hw).mono ?_
        rintro e w1 ⟨rfl, hb1⟩
        have hB1 := (hB.alloc hB.size (.cells #[.int .i64 g1, .int .i64 g2, .int .i64 g3, .bool g4, .bool g5, .bool g6] 30)).trans (hb1.mono (by simp; omega))
        cases hr : rok g1 g2 g3
        · have H1 := hide (HBAD.out hr)
          clear hr HBAD HGOOD
          go_wp2
          go_ret
          exact ⟨ret_bool (by rw [HF.out, H1.out]; simp), hB1⟩
        · have H1 := hide (HGOOD.out hr)
          clear hr HBAD HGOOD
          go_wp2
          go_roundw
          case rel => exact ⟨j + 1, by omega, by go_num, H1.out, hB1⟩
          case measure => simp [intOf]; omega
      · have hjn : j = n := by omega
        subst hjn
        have HOK := hide (okB_iff.2 hok)
        clear hok
        go_wp2
        go_ret
        exact ⟨ret_bool (by rw [HF.out, HOK.out]; simp; omega), hB⟩

set_option maxHeartbeats 2000000 in
theorem iAllowed_good (x : Option Addr) (j cap : Nat) (rs : List Rg) (a s k : Int) (w : World) (h : RS w x j cap rs) (hn : j ≤ 8) (hs : wd s = true) (hok : okTo rs j) (ha : wfi a) (F : Bool) (hF : F = (okB rs j && upB rs a k j s.toNat)) :
    Calls Try.prog 14 #[.slice x j cap, .int .i64 a, .int .i64 s, .int .i64 k] w fun e w' => e = .returned (.bool F) ∧ Below w.heap.size w w' := by
  have hl := h.1
  obtain ⟨ha0, ha1⟩ := ha
  have hs4 : 1 ≤ s ∧ s ≤ 4 := by have := hs; simp [wd] at this; omega
  obtain ⟨hs1, hs4⟩ := hs4
  have HS := hide hs
  have HF := hide hF
  have HOK := hide hok
  clear hs hF hok
  go_enter Try.func14, Try.ntmps14
  go_wp2_with fail
  refine (isWidth_any s _).mono ?_
  rw [HS.out]
  rintro e w2 ⟨rfl, rfl⟩
  go_wp2_with fail
  refine (regionsOk_any x j cap rs _ h true (by rw [okB_iff.2 HOK.out]; simp; omega)).mono ?_
  rintro e w0 ⟨rfl, hB⟩
  go_wp2
  go_loopw [19] (fun i wr => ∃ m : Nat, (m : Int) ≤ s ∧ i = .int .i64 m ∧ upTo rs a k j m ∧ Below w.heap.size w wr) (fun i _ => s.toNat - (intOf i).toNat)
  case atStart => exact ⟨0, by omega, rfl, fun i hi => absurd hi (by omega), hB⟩
  case round =>
    obtain ⟨m, hm, rfl, hup, hB⟩ := hrel
    by_cases hlt : (m:Int) < s
    · have hbad : oneTo rs (wrap64 (a + m)) k j = false → upB rs a k j s.toNat = false := upB_false (by omega)
      have hgood : oneTo rs (wrap64 (a + m)) k j = true → upTo rs a k j (m + 1) := upTo_succ hup
      have HBAD := hide hbad
      have HGOOD := hide hgood
      have HUP := hide hup
      clear hbad hgood hup
      go_wp2_with fail
      refine (addr_any x j cap rs _ k _ (h.below hB) (okTo_all hl HOK.out) (wrap_wfi _) hn).mono ?_
      generalize oneTo rs (wrap64 (a + m)) k j = r at *
      rintro e w1 ⟨rfl, hb1⟩
      have hB1 := hB.trans (hb1.mono hB.size)
      cases r
      · have H1 := hide (HBAD.out rfl)
        clear HBAD HGOOD
        go_wp2
        go_ret
        exact ⟨ret_bool (by rw [HF.out, H1.out]; simp), hB1⟩
      · have H1 := hide (HGOOD.out rfl)
        clear HBAD HGOOD
        go_wp2
        go_roundw
        case rel => exact ⟨m + 1, by omega, by go_num, H1.out, hB1⟩
        case measure => simp [intOf]; omega
    · have hms : s.toNat = m := by omega
      have HM := hide (upB_iff.2 hup)
      rw [← hms] at HM
      have HUP := hide hup
      clear hup hms
      go_wp2
      go_ret
      exact ⟨ret_bool (by rw [HF.out, HM.out]; rw [okB_iff.2 HOK.out]; rfl), hB⟩

set_option maxHeartbeats 1000000 in
theorem iAllowed_bad (x : Option Addr) (n cap : Nat) (rs : List Rg) (a s k : Int) (w : World) (h : RS w x n cap rs) (hb : wd s = false ∨ (decide (n ≤ 8) && okB rs n) = false) :
    Calls Try.prog 14 #[.slice x n cap, .int .i64 a, .int .i64 s, .int .i64 k] w fun e w' => e = .returned (.bool false) ∧ Below w.heap.size w w' := by
  cases hs : wd s
  · clear hb
    go_enter Try.func14, Try.ntmps14
    go_wp2_with fail
    refine (isWidth_any s _).mono ?_
    rw [hs]
    rintro e w2 ⟨rfl, rfl⟩
    go_wp2
    go_ret
    exact ⟨rfl, Below.refl _ _⟩
  · have hb := hide (show false = (decide (n ≤ 8) && okB rs n) by rcases hb with hb | hb; rw [hs] at hb; simp at hb; exact hb.symm)
    go_enter Try.func14, Try.ntmps14
    go_wp2_with fail
    refine (isWidth_any s _).mono ?_
    rw [hs]
    rintro e w2 ⟨rfl, rfl⟩
    go_wp2_with fail
    refine (regionsOk_any x n cap rs _ h false hb.out).mono ?_
    rintro e w0 ⟨rfl, hB⟩
    go_wp2
    go_ret
    exact ⟨rfl, hB⟩

theorem iAllowed_any (x : Option Addr) (n cap : Nat) (rs : List Rg) (a s k : Int) (w : World) (h : RS w x n cap rs) (ha : wfi a) :
    Calls Try.prog 14 #[.slice x n cap, .int .i64 a, .int .i64 s, .int .i64 k] w fun e w' => e = .returned (.bool (alw rs n a s k)) ∧ Below w.heap.size w w' := by
  cases hs : wd s
  · have hf : alw rs n a s k = false := by simp [alw, hs]
    rw [hf]
    exact iAllowed_bad x n cap rs a s k w h (Or.inl hs)
  · cases hr : (decide (n ≤ 8) && okB rs n)
    · have hf : alw rs n a s k = false := by
        unfold alw
        cases h8 : decide (n ≤ 8)
        · rfl
        · rw [h8] at hr
          simp at hr
          simp [hr]
      rw [hf]
      exact iAllowed_bad x n cap rs a s k w h (Or.inr hr)
    · simp at hr
      exact iAllowed_good x n cap rs a s k w h hr.1 hs (okB_iff.1 hr.2) ha _ (by simp [alw, hs, hr.1])
end Go.Proofs.Ythnelonbpbhhbab
