import Derived.Test.YtngdgogjlpjjpaeGreatJ03
namespace Go.Proofs.YtngdgogjlpjjpaeGreat
open Go.RowKit
set_option linter.unusedVariables false

set_option maxHeartbeats 2000000 in
theorem l2Best_wide (a s l : Int) (w : World) (hl : 8 ≤ l) (hl2 : l ≤ 14) (ha : 0 ≤ a) (hs : 0 < s) (has : a + s ≤ 262144) :
    Calls Tryz.prog 247 #[.int .i64 l, .int .i64 a, .int .i64 s] w (BePost w (baseOf a l) l (cnt l (qOf a (a + s) l)) (qOf a (a + s) l)) := by
  obtain ⟨P, hP⟩ : ∃ P, (2:Int)^(l - 3).toNat = P := ⟨_, rfl⟩
  obtain ⟨N, hN⟩ : ∃ N, (2:Int)^l.toNat = N := ⟨_, rfl⟩
  obtain ⟨g1, g2, g3, g4, g5, g6, g7⟩ := parts a l P N (by omega) (by omega) hP hN ha (by omega)
  obtain ⟨b0, b1, b2, b3, b4⟩ := base_ok a l N (by omega) (by omega) hN ha (by omega)
  have hdm := div_mul_base a N ha (by omega)
  have hjle := jj_le a (a + s) l g5
  have HIN := hide (part_in a (a + s) l P N (by omega) hl2 hP hN ha (by omega) has)
  have HQ := hide (show qOf a (a + s) l = runq (i0Of a l) (jj a (a + s) l) ∧ cnt l (qOf a (a + s) l) = (jj a (a + s) l : Int) * P from by
    have e := qOf_wide a (a + s) l hl
    refine ⟨e, ?_⟩
    rw [e]
    exact cnt_run l P hP _ _ g5 hjle)
  obtain ⟨b, hb⟩ : ∃ b, b = a - a % N := ⟨_, rfl⟩
  have hbo : baseOf a l = b := by unfold baseOf; rw [hN, hb]
  rw [← hb] at b0 b1 b2 hdm
  have HP2 := hide (fun w => l2Power_any l (by omega) (by omega) w)
  rw [hN] at HP2
  have hwf : (Lit.int .i64 b).wf = true := by simp [Lit.wf, IntKind.min, IntKind.max, IntKind.bits, IntKind.signed]; omega
  have HR := hide (fun w => sRegionOk_any b l 0 false false false w hwf)
  have hrok : rok b l 0 = true := by unfold rok; rw [hN]; simp; omega
  rw [hrok] at HR
  rw [hbo] at HIN ⊢
  generalize i0Of a l = i0 at *
  generalize jj a (a + s) l = j at *
  generalize qOf a (a + s) l = q at *
  have hd8 : N / 8 = P := by omega
  have hN1 : N ≤ 16384 := by omega
  have hN0 : 0 < N := by omega
  clear hP hN g1 g4 g6 g7 hrok hbo b2 b3 b4 hb hwf
  go_enter Tryz.func247, Tryz.ntmps247
  go_wp2_with fail
  refine (HP2.out _).mono ?_
  rintro e w1 ⟨rfl, rfl⟩
  go_wp2_with fail
  refine (HR.out _).mono ?_
  rintro e w2 ⟨rfl, hb2⟩
  have kz := ((Blk.new w #[.int .i64 0, .int .i64 0, .int .i64 0, .bool false, .bool false, .bool false] 158).alloc (.cells #[.int .i64 b, .int .i64 l, .int .i64 0, .bool false, .bool false, .bool false] 158)).below hb2
  have kr := (Blk.new (w.alloc (.cells #[.int .i64 0, .int .i64 0, .int .i64 0, .bool false, .bool false, .bool false] 158)) #[.int .i64 b, .int .i64 l, .int .i64 0, .bool false, .bool false, .bool false] 158).below hb2
  simp only [World.size_alloc] at kr
  have HB2 := hide ((((Below.refl w.heap.size w).alloc (Nat.le_refl _) (.cells #[.int .i64 0, .int .i64 0, .int .i64 0, .bool false, .bool false, .bool false] 158)).alloc (by simp) (.cells #[.int .i64 b, .int .i64 l, .int .i64 0, .bool false, .bool false, .bool false] 158)).trans (hb2.mono (by simp; omega)))
  have KZ := hide kz
  have KR := hide kr
  clear kz kr hb2
  go_wp2_with fail
  rw [hd8]
  have b1' : b ≤ 262144 := by omega
  clear hd8 hdm b1 hN1 hN0
  have HOFF := hide (show ∀ i, i ≤ 8 → ∃ o, o = 2 ^ i - 1 - runq i0 (ci i0 j i) ∧ o ≤ 255 from fun i hi => ⟨_, rfl, by
    have : 2 ^ i ≤ 2 ^ 8 := Nat.pow_le_pow_right (by omega) hi
    omega⟩)
  go_loopw [12, 13] (fun c x wr => ∃ (i o : Nat), i ≤ 8 ∧ c = .int .i64 ((ci i0 j i : Int) * P) ∧ x = .int .i64 (i : Int) ∧ o = 2 ^ i - 1 - runq i0 (ci i0 j i) ∧ Blk wr (w.heap.size + 1) #[.int .i64 b, .int .i64 l, .int .i64 (o : Int), .bool false, .bool false, .bool false] 158 ∧ Blk wr w.heap.size #[.int .i64 0, .int .i64 0, .int .i64 0, .bool false, .bool false, .bool false] 158 ∧ Below w.heap.size w wr) (fun _ x _ => 8 - (intOf x).toNat)
  case atStart =>
    have h0 : ci i0 j 0 = 0 := by simp [ci]
    exact ⟨0, 0, by omega, by rw [h0]; simp, rfl, by simp, KR.out, KZ.out, HB2.out⟩
  case round =>
    obtain ⟨i, o, hi, rfl, rfl, ho, kr, kz, hB⟩ := hrel
    have ho8 : o ≤ 255 := by
      have : 2 ^ i ≤ 2 ^ 8 := Nat.pow_le_pow_right (by omega) hi
      omega
    have hci : ci i0 j i ≤ 8 := by unfold ci; omega
    obtain ⟨c, hc⟩ : ∃ c : Int, c = (ci i0 j i : Int) * P := ⟨_, rfl⟩
    have hc0 : 0 ≤ c := by rw [hc]; exact Int.mul_nonneg (by omega) (by omega)
    have hc1 : c ≤ 16384 := by
      have : (ci i0 j i : Int) * P ≤ 8 * P := Int.mul_le_mul_of_nonneg_right (by omega) (by omega)
      omega
    have HCC := hide hc
    rw [← hc]
    have HOO := hide ho
    have HB := hide hB
    have KR2 := hide kr
    have KZ2 := hide kz
    obtain ⟨q1, q2, q3, q4, q5, q6, q7⟩ := kz.six'
    obtain ⟨p1, p2, p3, p4, p5, p6, p7⟩ := kr.six'
    clear hc ho kr kz hB HB2 KZ KR
    by_cases h8 : i < 8
    · have hiP0 : 0 ≤ (i : Int) * P := Int.mul_nonneg (by omega) (by omega)
      have hiP1 : (i : Int) * P ≤ 16384 := by
        have : (i : Int) * P ≤ 8 * P := Int.mul_le_mul_of_nonneg_right (by omega) (by omega)
        omega
      have hin := HIN.out i h8
      by_cases hp : i0 ≤ i ∧ i < i0 + j
      · obtain ⟨k1, k2, k3⟩ := hin.2 hp
        have HN := hide (ci_in i0 g5 j (by omega) i h8 hp)
        clear hin hp
        go_wp2_with fail
        constructor
        · exact ⟨i + 1, o, by omega, by rw [HN.out.1, HCC.out]; congr 1; rw [Int.natCast_add, Int.add_mul]; simp, by go_num, by rw [HOO.out]; exact HN.out.2, KR2.out, KZ2.out, HB.out⟩
        · simp [intOf]; omega
      · have HN := hide (ci_out i0 g5 j (by omega) i h8 ⟨by omega, hjle⟩)
        obtain ⟨X, hX⟩ : ∃ X : Nat, X = 2 ^ i := ⟨_, rfl⟩
        have hX8 : X ≤ 256 := by
          have : 2 ^ i ≤ 2 ^ 8 := Nat.pow_le_pow_right (by omega) hi
          omega
        have HP3 := hide (show ∀ w, Calls Tryz.prog 275 #[.int .i64 (i : Int)] w fun e w' => e = .returned (.int .i64 (X : Int)) ∧ w' = w from fun w => (l2Power_any (i : Int) (by omega) (by omega) w).mono fun e w' h => ⟨by rw [h.1, hX]; simp, h.2⟩)
        have HX := hide hX
        have hor : (b + (i : Int) * P < a) ∨ (a ≤ b + (i : Int) * P ∧ a + s < b + (i : Int) * P + P) ∨ (a ≤ b + (i : Int) * P ∧ b + (i : Int) * P + P ≤ a + s ∧ a % P ≠ 0) := by
          by_cases u1 : a ≤ b + (i : Int) * P
          · by_cases u2 : b + (i : Int) * P + P ≤ a + s
            · exact Or.inr (Or.inr ⟨u1, u2, fun u3 => hp (hin.1 ⟨u1, u2, u3⟩)⟩)
            · exact Or.inr (Or.inl ⟨u1, by omega⟩)
          · exact Or.inl (by omega)
        clear hin hp hX
        have HREL := hide (show ∀ W, W = (wr.setCell ⟨w.heap.size + 1, 2, none⟩ (.int .i64 ((o : Int) + (X : Int)))).drew → ∃ (i_1 o : Nat), i_1 ≤ 8 ∧ Value.int .i64 c = .int .i64 ((ci i0 j i_1 : Int) * P) ∧ Value.int .i64 ((i : Int) + 1) = .int .i64 (i_1 : Int) ∧ o = 2 ^ i_1 - 1 - runq i0 (ci i0 j i_1) ∧ Blk W (w.heap.size + 1) #[.int .i64 b, .int .i64 l, .int .i64 (o : Int), .bool false, .bool false, .bool false] 158 ∧ Blk W w.heap.size #[.int .i64 0, .int .i64 0, .int .i64 0, .bool false, .bool false, .bool false] 158 ∧ Below w.heap.size w W from by
          rintro W rfl
          refine ⟨i + 1, o + X, by omega, by rw [HN.out.1, HCC.out], by simp, by rw [HOO.out, HX.out]; exact HN.out.2, ?_, (show Blk (wr.setCell ⟨w.heap.size + 1, 2, none⟩ (.int .i64 ((o : Int) + (X : Int)))) _ _ _ from Blk.other KZ2.out _ _ (by simp)), (HB.out.setCell (by simp) _).drew⟩
          have := Blk.set KR2.out 2 (.int .i64 ((o : Int) + (X : Int)))
          rw [Int.natCast_add]
          exact this)
        have hwr : IntKind.i64.wrap ((o : Int) + (X : Int)) = (o : Int) + (X : Int) := cv_wrap (by omega) (by omega)
        rcases hor with u | ⟨u1, u2⟩ | ⟨u1, u2, u3⟩
        · go_wp2_with fail
          go_region_with (go_at_call 275; refine (HP3.out _).mono ?_; rintro e w3 ⟨rfl, rfl⟩)
          all_goals
            try rw [hwr]
            go_wp2_with fail
            constructor
            · exact HREL.out _ rfl
            · simp [intOf]; omega
        · have u2n : ¬ (b + (i : Int) * P + P ≤ a + s) := by omega
          go_wp2_with fail
          all_goals first
            | (exfalso; omega)
            | (go_region_with (go_at_call 275; refine (HP3.out _).mono ?_; rintro e w3 ⟨rfl, rfl⟩)
               all_goals (try rw [hwr])
               all_goals go_wp2_with fail
               all_goals (refine ⟨HREL.out _ rfl, ?_⟩; simp [intOf]; omega))
        · have u3' : (a % P == 0) = false := by simpa using u3
          clear u3
          go_wp2_with fail
          go_region_with (go_at_call 275; refine (HP3.out _).mono ?_; rintro e w3 ⟨rfl, rfl⟩)
          all_goals
            try rw [hwr]
            go_wp2_with fail
            constructor
            · exact HREL.out _ rfl
            · simp [intOf]; omega
    · have hi8 : i = 8 := by omega
      subst hi8
      have hq : (o : Int) = 255 - (q : Int) := by
        have := HOO.out
        rw [ci_end i0 g5 j (by omega) hjle, ← HQ.out.1] at this
        have hq255 : q < 256 := by rw [HQ.out.1]; exact runq_lt i0 g5 j (by omega) hjle
        omega
      have hc' : cnt l q = c := by rw [HQ.out.2, HCC.out, ci_end i0 g5 j (by omega) hjle]
      have HC2 := hide hc'
      have HQ2 := hide hq
      clear hq hc'
      go_wp2_with fail
      rw [HC2.out]
      refine be_end w _ _ b l (o : Int) c q ?_ ?_ (be_set KZ2.out b l (o : Int)) (be_below (Nat.le_refl _) HB.out b l (o : Int)) (fun _ => HQ2.out)
      · rfl
      · rfl
end Go.Proofs.YtngdgogjlpjjpaeGreat
