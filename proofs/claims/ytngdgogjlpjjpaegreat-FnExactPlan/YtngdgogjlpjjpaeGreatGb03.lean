import Derived.Test.YtngdgogjlpjjpaeGreatGb02
import Derived.Maps.AppendAt
namespace Go.Proofs.YtngdgogjlpjjpaeGreat
open Go.RowKit
set_option linter.unusedVariables false

set_option maxHeartbeats 2000000 in
theorem l2Best_wide (a s l : Int) (w : World) (hl : 8 ≤ l) (hl2 : l ≤ 14) (ha : 0 ≤ a) (hs : 0 < s) (has : a + s ≤ 262144) :
    Calls Tryz.prog 247 #[.int .i64 l, .int .i64 a, .int .i64 s] w (BePost w (baseOf a l) l (cnt l (qOf a (a + s) l)) (qOf a (a + s) l)) := by
  obtain ⟨P, hP⟩ : ∃ P, (2:Int)^(l - 3).toNat = P := ⟨_, rfl⟩
  obtain ⟨N, hN⟩ : ∃ N, (2:Int)^l.toNat = N := ⟨_, rfl⟩
  obtain ⟨g1, g2, g3, g4, g5, g6, g7⟩ := parts a l P N (by omega) (by omega) hP hN ha (by omega)
  obtain ⟨b0, b1, b2, b3, b4⟩ := base_ok a l N (by omega) (by omega) hN ha (by omega)
  have hdm := div_mul_base a N ha (by omega)
  have hjle := jj_le a (a + s) l g5
  have HIN := hide (part_in a (a + s) l P N (by omega) hl2 hP hN ha (by omega) has)
  have HQ := hide (show qOf a (a + s) l = runq (i0Of a l) (jj a (a + s) l) ∧ cnt l (qOf a (a + s) l) = (jj a (a + s) l : Int) * P from by
    have e := qOf_wide a (a + s) l hl
    refine ⟨e, ?_⟩
    rw [e]
    exact cnt_run l P hP _ _ g5 hjle)
  obtain ⟨b, hb⟩ : ∃ b, b = a - a % N := ⟨_, rfl⟩
  have hbo : baseOf a l = b := by unfold baseOf; rw [hN, hb]
  rw [← hb] at b0 b1 b2 hdm
  have HP2 := hide (fun w => l2Power_any l (by omega) (by omega) w)
  rw [hN] at HP2
  have hwf : (Lit.int .i64 b).wf = true := by simp [Lit.wf, IntKind.min, IntKind.max, IntKind.bits, IntKind.signed]; omega
  have HR := hide (fun w => sRegionOk_any b l 0 false false false w hwf)
  have hrok : rok b l 0 = true := by unfold rok; rw [hN]; simp; omega
  rw [hrok] at HR
  rw [hbo] at HIN ⊢
  generalize i0Of a l = i0 at *
  generalize jj a (a + s) l = j at *
  generalize qOf a (a + s) l = q at *
  have hd8 : N / 8 = P := by omega
  have hN1 : N ≤ 16384 := by omega
  have hN0 : 0 < N := by omega
  clear hP hN g1 g4 g6 g7 hrok hbo b2 b3 b4 hb hwf
  go_enter Tryz.func247, Tryz.ntmps247
  go_wp2_with fail
  refine (HP2.out _).mono ?_
  rintro e w1 ⟨rfl, rfl⟩
  go_wp2_with fail
  refine (HR.out _).mono ?_
  rintro e w2 ⟨rfl, hb2⟩
  have kz := ((Blk.new w #[.int .i64 0, .int .i64 0, .int .i64 0, .bool false, .bool false, .bool false] 158).alloc (.cells #[.int .i64 b, .int .i64 l, .int .i64 0, .bool false, .bool false, .bool false] 158)).below hb2
  have kr := (Blk.new (w.alloc (.cells #[.int .i64 0, .int .i64 0, .int .i64 0, .bool false, .bool false, .bool false] 158)) #[.int .i64 b, .int .i64 l, .int .i64 0, .bool false, .bool false, .bool false] 158).below hb2
  simp only [World.size_alloc] at kr
  have HB2 := hide ((((Below.refl w.heap.size w).alloc (Nat.le_refl _) (.cells #[.int .i64 0, .int .i64 0, .int .i64 0, .bool false, .bool false, .bool false] 158)).alloc (by simp) (.cells #[.int .i64 b, .int .i64 l, .int .i64 0, .bool false, .bool false, .bool false] 158)).trans (hb2.mono (by simp; omega)))
  have KZ := hide kz
  have KR := hide kr
  clear kz kr hb2
  go_wp2_with fail
  rw [hd8]
  have b1' : b ≤ 262144 := by omega
  clear hd8 hdm b1 hN1 hN0
  have HOFF := hide (show ∀ i, i ≤ 8 → ∃ o, o = 2 ^ i - 1 - runq i0 (ci i0 j i) ∧ o ≤ 255 from fun i hi => ⟨_, rfl, by
    have : 2 ^ i ≤ 2 ^ 8 := Nat.pow_le_pow_right (by omega) hi
    omega⟩)
  go_loopw [12, 13] (fun c x wr => ∃ (i o : Nat), i ≤ 8 ∧ c = .int .i64 ((ci i0 j i : Int) * P) ∧ x = .int .i64 (i : Int) ∧ o = 2 ^ i - 1 - runq i0 (ci i0 j i) ∧ Blk wr (w.heap.size + 1) #[.int .i64 b, .int .i64 l, .int .i64 (o : Int), .bool false, .bool false, .bool false] 158 ∧ Blk wr w.heap.size #[.int .i64 0, .int .i64 0, .int .i64 0, .bool false, .bool false, .bool false] 158 ∧ Below w.heap.size w wr) (fun _ x _ => 8 - (intOf x).toNat)
  case atStart =>
    have h0 : ci i0 j 0 = 0 := by simp [ci]
    exact ⟨0, 0, by omega, by rw [h0]; simp, rfl, by simp, KR.out, KZ.out, HB2.out⟩
  case round =>
    obtain ⟨i, o, hi, rfl, rfl, ho, kr, kz, hB⟩ := hrel
    have ho8 : o ≤ 255 := by
      have : 2 ^ i ≤ 2 ^ 8 := Nat.pow_le_pow_right (by omega) hi
      omega
    have hci : ci i0 j i ≤ 8 := by unfold ci; omega
    obtain ⟨c, hc⟩ : ∃ c : Int, c = (ci i0 j i : Int) * P := ⟨_, rfl⟩
    have hc0 : 0 ≤ c := by rw [hc]; exact Int.mul_nonneg (by omega) (by omega)
    have hc1 : c ≤ 16384 := by
      have : (ci i0 j i : Int) * P ≤ 8 * P := Int.mul_le_mul_of_nonneg_right (by omega) (by omega)
      omega
    have HCC := hide hc
    rw [← hc]
    have HOO := hide ho
    have HB := hide hB
    have KR2 := hide kr
    have KZ2 := hide kz
    obtain ⟨q1, q2, q3, q4, q5, q6, q7⟩ := kz.six'
    obtain ⟨p1, p2, p3, p4, p5, p6, p7⟩ := kr.six'
    clear hc ho kr kz hB HB2 KZ KR
    by_cases h8 : i < 8
    · have hiP0 : 0 ≤ (i : Int) * P := Int.mul_nonneg (by omega) (by omega)
      have hiP1 : (i : Int) * P ≤ 16384 := by
        have : (i : Int) * P ≤ 8 * P := Int.mul_le_mul_of_nonneg_right (by omega) (by omega)
        omega
      have hin := HIN.out i h8
      by_cases hp : i0 ≤ i ∧ i < i0 + j
      · obtain ⟨k1, k2, k3⟩ := hin.2 hp
        have HN := hide (ci_in i0 g5 j (by omega) i h8 hp)
        clear hin hp
        go_wp2_with fail
        constructor
        · exact ⟨i + 1, o, by omega, by rw [HN.out.1, HCC.out]; congr 1; rw [Int.natCast_add, Int.add_mul]; simp, by go_num, by rw [HOO.out]; exact HN.out.2, KR2.out, KZ2.out, HB.out⟩
        · simp [intOf]; omega
      · have HN := hide (ci_out i0 g5 j (by omega) i h8 ⟨by omega, hjle⟩)
        obtain ⟨X, hX⟩ : ∃ X : Nat, X = 2 ^ i := ⟨_, rfl⟩
        have hX8 : X ≤ 256 := by
          have : 2 ^ i ≤ 2 ^ 8 := Nat.pow_le_pow_right (by omega) hi
          omega
        have HP3 := hide (show ∀ w, Calls Tryz.prog 275 #[.int .i64 (i : Int)] w fun e w' => e = .returned (.int .i64 (X : Int)) ∧ w' = w from fun w => (l2Power_any (i : Int) (by omega) (by omega) w).mono fun e w' h => ⟨by rw [h.1, hX]; simp, h.2⟩)
        have HX := hide hX
        have hor : (b + (i : Int) * P < a) ∨ (a ≤ b + (i : Int) * P ∧ a + s < b + (i : Int) * P + P) ∨ (a ≤ b + (i : Int) * P ∧ b + (i : Int) * P + P ≤ a + s ∧ a % P ≠ 0) := by
          by_cases u1 : a ≤ b + (i : Int) * P
          · by_cases u2 : b + (i : Int) * P + P ≤ a + s
            · exact Or.inr (Or.inr ⟨u1, u2, fun u3 => hp (hin.1 ⟨u1, u2, u3⟩)⟩)
            · exact Or.inr (Or.inl ⟨u1, by omega⟩)
          · exact Or.inl (by omega)
        clear hin hp hX
        have HREL := hide (show ∀ W, W = (wr.setCell ⟨w.heap.size + 1, 2, none⟩ (.int .i64 ((o : Int) + (X : Int)))).drew → ∃ (i_1 o : Nat), i_1 ≤ 8 ∧ Value.int .i64 c = .int .i64 ((ci i0 j i_1 : Int) * P) ∧ Value.int .i64 ((i : Int) + 1) = .int .i64 (i_1 : Int) ∧ o = 2 ^ i_1 - 1 - runq i0 (ci i0 j i_1) ∧ Blk W (w.heap.size + 1) #[.int .i64 b, .int .i64 l, .int .i64 (o : Int), .bool false, .bool false, .bool false] 158 ∧ Blk W w.heap.size #[.int .i64 0, .int .i64 0, .int .i64 0, .bool false, .bool false, .bool false] 158 ∧ Below w.heap.size w W from by
          rintro W rfl
          refine ⟨i + 1, o + X, by omega, by rw [HN.out.1, HCC.out], by simp, by rw [HOO.out, HX.out]; exact HN.out.2, ?_, (show Blk (wr.setCell ⟨w.heap.size + 1, 2, none⟩ (.int .i64 ((o : Int) + (X : Int)))) _ _ _ from Blk.other KZ2.out _ _ (by simp)), (HB.out.setCell (by simp) _).drew⟩
          have := Blk.set KR2.out 2 (.int .i64 ((o : Int) + (X : Int)))
          rw [Int.natCast_add]
          exact this)
        have hwr : IntKind.i64.wrap ((o : Int) + (X : Int)) = (o : Int) + (X : Int) := cv_wrap (by omega) (by omega)
        rcases hor with u | ⟨u1, u2⟩ | ⟨u1, u2, u3⟩
        · go_wp2_with fail
          go_region_with (go_at_call 275; refine (HP3.out _).mono ?_; rintro e w3 ⟨rfl, rfl⟩)
          all_goals
            try rw [hwr]
            go_wp2_with fail
            constructor
            · exact HREL.out _ rfl
            · simp [intOf]; omega
        · have u2n : ¬ (b + (i : Int) * P + P ≤ a + s) := by omega
          go_wp2_with fail
          all_goals first
            | (exfalso; omega)
            | (go_region_with (go_at_call 275; refine (HP3.out _).mono ?_; rintro e w3 ⟨rfl, rfl⟩)
               all_goals (try rw [hwr])
               all_goals go_wp2_with fail
               all_goals (refine ⟨HREL.out _ rfl, ?_⟩; simp [intOf]; omega))
        · have u3' : (a % P == 0) = false := by simpa using u3
          clear u3
          go_wp2_with fail
          go_region_with (go_at_call 275; refine (HP3.out _).mono ?_; rintro e w3 ⟨rfl, rfl⟩)
          all_goals
            try rw [hwr]
            go_wp2_with fail
            constructor
            · exact HREL.out _ rfl
            · simp [intOf]; omega
    · have hi8 : i = 8 := by omega
      subst hi8
      have hq : (o : Int) = 255 - (q : Int) := by
        have := HOO.out
        rw [ci_end i0 g5 j (by omega) hjle, ← HQ.out.1] at this
        have hq255 : q < 256 := by rw [HQ.out.1]; exact runq_lt i0 g5 j (by omega) hjle
        omega
      have hc' : cnt l q = c := by rw [HQ.out.2, HCC.out, ci_end i0 g5 j (by omega) hjle]
      have HC2 := hide hc'
      have HQ2 := hide hq
      clear hq hc'
      go_wp2_with fail
      rw [HC2.out]
      refine be_end w _ _ b l (o : Int) c q ?_ ?_ (be_set KZ2.out b l (o : Int)) (be_below (Nat.le_refl _) HB.out b l (o : Int)) (fun _ => HQ2.out)
      · rfl
      · rfl
end Go.Proofs.YtngdgogjlpjjpaeGreat

namespace Go.Proofs.YtngdgogjlpjjpaeGreat
open Go.RowKit
set_option linter.unusedVariables false

theorem l2Best_any (a s l : Int) (w : World) (hl : 5 ≤ l) (hl2 : l ≤ 14) (ha : 0 ≤ a) (hs : 0 < s) (has : a + s ≤ 262144) :
    Calls Tryz.prog 247 #[.int .i64 l, .int .i64 a, .int .i64 s] w (BePost w (baseOf a l) l (cnt l (qOf a (a + s) l)) (qOf a (a + s) l)) := by
  by_cases h : l < 8
  · exact l2Best_narrow a s l w hl h ha hs has
  · exact l2Best_wide a s l w (by omega) hl2 ha hs has

set_option maxHeartbeats 1000000 in
theorem sCover_bad (f s : Int) (w : World) (h1 : -9223372036854775808 ≤ f ∧ f ≤ 9223372036854775807) (h2 : -9223372036854775808 ≤ s ∧ s ≤ 9223372036854775807) (h : cvOk f s = false) :
    Calls Tryz.prog 202 #[.int .i64 f, .int .i64 s] w (CvPost w false []) := by
  have HO := hide (or_empty w w.heap.size (Nat.le_refl _))
  have HB := hide ((Below.refl w.heap.size w).alloc (Nat.le_refl _) (.cells #[] 158))
  have HE := hide (show ∀ e W, W = w.alloc (.cells #[] 158) → e = Ending.returned (.tuple #[.slice (some ⟨w.heap.size, 0, none⟩) 0 0, .bool false]) → CvPost w false [] e W from by
    rintro e W rfl rfl
    exact ⟨_, 0, 0, rfl, HO.out, HB.out⟩)
  have hor : f < 0 ∨ (0 ≤ f ∧ s < 0) ∨ (0 ≤ f ∧ 0 ≤ s ∧ 262144 < f) ∨ (0 ≤ f ∧ 0 ≤ s ∧ f ≤ 262144 ∧ 262144 < s) ∨ (0 ≤ f ∧ 0 ≤ s ∧ f ≤ 262144 ∧ s ≤ 262144 ∧ 262144 < f + s) ∨ (0 ≤ f ∧ 0 ≤ s ∧ f ≤ 262144 ∧ s ≤ 262144 ∧ f + s ≤ 262144 ∧ f % 32 ≠ 0) ∨ (0 ≤ f ∧ 0 ≤ s ∧ f ≤ 262144 ∧ s ≤ 262144 ∧ f + s ≤ 262144 ∧ f % 32 = 0 ∧ s % 32 ≠ 0) := by
    unfold cvOk grn at h
    simp at h
    omega
  clear h
  rcases hor with u | ⟨u1, u2⟩ | ⟨u1, u2, u3⟩ | ⟨u1, u2, u3, u4⟩ | ⟨u1, u2, u3, u4, u5⟩ | ⟨u1, u2, u3, u4, u5, u6⟩ | ⟨u1, u2, u3, u4, u5, u6, u7⟩
  case inr.inr.inr.inr.inr.inl =>
    have u6' : (f % 32 != 0) = true := by simpa using u6
    clear u6
    go_enter Tryz.func202, Tryz.ntmps202
    go_wp2_with fail
    go_ret2
    exact HE.out _ _ rfl rfl
  case inr.inr.inr.inr.inr.inr =>
    have u6' : (f % 32 != 0) = false := by simpa using u6
    have u7' : (s % 32 != 0) = true := by simpa using u7
    clear u6 u7
    go_enter Tryz.func202, Tryz.ntmps202
    go_wp2_with fail
    go_ret2
    exact HE.out _ _ rfl rfl
  all_goals
    go_enter Tryz.func202, Tryz.ntmps202
    go_wp2_with fail
    go_ret2
    exact HE.out _ _ rfl rfl
end Go.Proofs.YtngdgogjlpjjpaeGreat

namespace Go.Proofs.YtngdgogjlpjjpaeGreat
open Go.RowKit
set_option linter.unusedVariables false
/-- the best region so far, as cells -/
def bcells : CSt → Array Value
  | none => #[.int .i64 0, .int .i64 0, .int .i64 0, .bool false, .bool false, .bool false]
  | some (b, l, q) => #[.int .i64 b, .int .i64 l, .int .i64 (255 - (q : Int)), .bool false, .bool false, .bool false]
theorem bcells_six (s : CSt) : ∃ x y z, bcells s = #[.int .i64 x, .int .i64 y, .int .i64 z, .bool false, .bool false, .bool false] := by
  match s with
  | none => exact ⟨_, _, _, rfl⟩
  | some (b, l, q) => exact ⟨_, _, _, rfl⟩
theorem sCnt_le (a en : Int) (ha : 0 ≤ a) (hae : a < en) (hen : en ≤ 262144) (n : Nat) (hn : n ≤ 10) : sCnt (cvFold a en n) ≤ 262144 := by
  match h : cvFold a en n with
  | none => simp [sCnt]
  | some (b, l, q) =>
    obtain ⟨k1, k2, k3, k4⟩ := cvFold_gives a en ha hae hen n hn b l q h
    obtain ⟨c1, c2⟩ := qOf_cnt a en l k1 k2 ha hae hen
    rw [← k4] at c1
    simp only [sCnt]
    omega

set_option maxRecDepth 100000 in
set_option maxHeartbeats 2000000 in
theorem sCover_good (f s : Int) (w : World) (hf : 0 ≤ f) (hf32 : f % 32 = 0) (hs : 0 ≤ s) (hs32 : s % 32 = 0) (hfs : s ≤ 262144 - f) :
    Calls Tryz.prog 202 #[.int .i64 f, .int .i64 s] w (CvPost w true (cvAll f s)) := by
  obtain ⟨i0, hi, hz0, hz1, hz2⟩ := info_parts infoR
  obtain ⟨L, hL⟩ : ∃ L, L = cvAll f s := ⟨_, rfl⟩
  rw [← hL]
  unfold cvAll at hL
  have HL := hide hL
  clear hL
  have HO := hide (or_empty w w.heap.size (Nat.le_refl _))
  have HB := hide ((Below.refl w.heap.size w).alloc (Nat.le_refl _) (.cells #[] 158))
  have k1 : (f % 32 != 0) = false := by simpa using hf32
  have k2 : (s % 32 != 0) = false := by simpa using hs32
  have k3 : f + s ≤ 262144 := by omega
  have k4 : f ≤ 262144 := by omega
  have k5 : s ≤ 262144 := by omega
  go_enter Tryz.func202, Tryz.ntmps202
  go_wp2_with fail
  go_loopw [0, 1, 6] (fun x y r wr => ∃ (A : Option Addr) (m cap : Nat) (rs : List Rg) (n : Nat) (a z : Int), x = .int .i64 a ∧ y = .int .i64 z ∧ r = .slice A m cap ∧ f ≤ a ∧ a + z = f + s ∧ 0 ≤ z ∧ a % 32 = 0 ∧ z ≤ 32 * (n : Int) ∧ m + n ≤ 8192 ∧ ORg wr w.heap.size (.slice A m cap) rs ∧ L = rs ++ cvList (f + s) n a ∧ Below w.heap.size w wr) (fun _ y _ _ => (intOf y).toNat)
  case atStart => exact ⟨_, 0, 0, [], (s / 32).toNat, f, s, rfl, rfl, rfl, by omega, by omega, by omega, hf32, by omega, by omega, HO.out, by rw [HL.out]; rfl, HB.out⟩
  case round =>
    obtain ⟨A, m, cap, rs, n, a, z, rfl, rfl, rfl, ha, haz, hz, ha32, hn, hmn, hO, hLL, hB⟩ := hrel
    obtain ⟨w9, hw9⟩ : ∃ w9, w9 = wr := ⟨_, rfl⟩
    subst hw9
    by_cases hlt : 0 < z
    · rw [← haz] at hLL
      have hlen := (or_rs hO).1
      obtain ⟨b, l, q, hF, hl, hl2, hq, hc1, hc2, hc3, hb, _⟩ := chosen a (a + z) (by omega) (by omega) (by omega) ha32 (by omega)
      obtain ⟨n, rfl⟩ : ∃ n', n = n' + 1 := ⟨n - 1, by omega⟩
      rw [cvList_step (a + z) n a b l q (by omega) hF] at hLL
      have hbw : 0 ≤ b ∧ b ≤ 262144 := by
        have := base_ok a l _ hl hl2 rfl (by omega) (by omega)
        have := pow_pos l.toNat
        rw [hb]
        unfold baseOf
        omega
      clear hb
      have HF := hide hF
      have HLL := hide hLL
      have HO1 := hide hO
      have HB1 := hide hB
      have HLEN0 := hide hlen
      have HAZ := hide haz
      have hsz := hB.size
      have KZ := hide (Blk.new w9 #[.int .i64 0, .int .i64 0, .int .i64 0, .bool false, .bool false, .bool false] 158)
      clear hLL hO hB hF hlen HO HB
      go_wp2_with fail
      go_loopw [8, 9] (fun mo lg wq => ∃ (k : Nat), k ≤ 10 ∧ mo = .int .i64 (sCnt (cvFold a (a + z) k)) ∧ lg = .int .i64 (5 + (k : Int)) ∧ Blk wq w9.heap.size (bcells (cvFold a (a + z) k)) 158 ∧ Below w9.heap.size w9 wq) (fun _ lg _ => 15 - (intOf lg).toNat)
      case atStart => exact ⟨0, by omega, by rw [cvFold_none]; rfl, rfl, by rw [cvFold_none]; exact KZ.out, (Below.refl _ _).alloc (Nat.le_refl _) _⟩
      case round =>
        obtain ⟨k, hk, rfl, rfl, kb, hBq⟩ := hrel
        have hc0 := sCnt_nonneg (cvFold a (a + z) k)
        have hc9 := sCnt_le a (a + z) (by omega) (by omega) (by omega) k hk
        by_cases hk10 : k < 10
        · have HBE := hide (l2Best_any a z (5 + (k : Int)) wr (by omega) (by omega) (by omega) hlt (by omega))
          have HSU := hide (cvFold_succ a (a + z) k)
          obtain ⟨x1, x2, x3, hx⟩ := bcells_six (cvFold a (a + z) k)
          rw [hx] at kb
          have hqc := qOf_cnt a (a + z) (5 + (k : Int)) (by omega) (by omega) (by omega) (by omega) (by omega)
          have hqn := cnt_nonneg (5 + (k : Int)) (qOf a (a + z) (5 + (k : Int)))
          generalize hst : cvFold a (a + z) k = st at *
          generalize hcq : cnt (5 + (k : Int)) (qOf a (a + z) (5 + (k : Int))) = c at *
          generalize hbb : baseOf a (5 + (k : Int)) = bb at *
          obtain ⟨sc, hsc⟩ : ∃ sc, sc = sCnt st := ⟨_, rfl⟩
          rw [← hsc] at hc0 hc9 ⊢
          have HSC := hide hsc
          have HCQ := hide hcq
          have HX := hide hx
          have hcle : c ≤ 262144 := by omega
          have KB := hide kb
          have HBQ := hide hBq
          have hszq := hBq.size
          have hltq := kb.lt
          clear hsc hcq hx hqc hst hbb kb hBq
          go_wp2_with fail
          refine HBE.out.mono ?_
          rintro e w3 ⟨o, rfl, ho, hb3⟩
          have HO3 := hide ho
          have kb3 := (KB.out.below hb3).alloc (.cells #[.int .i64 bb, .int .i64 (5 + (k : Int)), .int .i64 o, .bool false, .bool false, .bool false] 158)
          have hsz3 := hb3.size
          have HB3 := hide ((HBQ.out.trans (hb3.mono hszq)).alloc (by omega) (.cells #[.int .i64 bb, .int .i64 (5 + (k : Int)), .int .i64 o, .bool false, .bool false, .bool false] 158))
          have KB3 := hide kb3
          obtain ⟨q1, q2, q3, q4, q5, q6, q7⟩ := kb3.six'
          clear ho hb3 kb3
          by_cases hgt : sc < c
          · have HE := hide (show cvFold a (a + z) (k + 1) = some (bb, 5 + (k : Int), qOf a (a + z) (5 + (k : Int))) from by
              rw [HSU.out]
              unfold keep
              rw [if_pos (by rw [← HSC.out, HCQ.out]; exact hgt)])
            go_wp2_with fail
            refine ⟨⟨k + 1, by omega, by rw [HE.out]; exact congrArg (Value.int .i64) HCQ.out.symm, by go_num, ?_, be_below (Nat.le_refl _) HB3.out bb (5 + (k : Int)) o⟩, by simp [intOf]; omega⟩
            rw [HE.out]
            have e2 : bcells (some (bb, 5 + (k : Int), qOf a (a + z) (5 + (k : Int)))) = #[.int .i64 bb, .int .i64 (5 + (k : Int)), .int .i64 o, .bool false, .bool false, .bool false] := by
              simp only [bcells]
              rw [HO3.out (by omega)]
            rw [e2]
            exact Blk.set (Blk.set (Blk.set (Blk.set (Blk.set (Blk.set KB3.out 0 _) 1 _) 2 _) 3 _) 4 _) 5 _
          · have HE := hide (show cvFold a (a + z) (k + 1) = st from by
              rw [HSU.out]
              unfold keep
              rw [if_neg (by rw [← HSC.out, HCQ.out]; exact hgt)])
            go_wp2_with fail
            exact ⟨⟨k + 1, by omega, by rw [HE.out, HSC.out], by go_num, by rw [HE.out, HX.out]; exact KB3.out, HB3.out⟩, by simp [intOf]; omega⟩
        · have hk' : k = 10 := by omega
          subst hk'
          rw [HF.out] at kb hc0 hc9 ⊢
          obtain ⟨o, ho⟩ : ∃ o, o = 255 - (q : Int) := ⟨_, rfl⟩
          obtain ⟨c, hc⟩ : ∃ c, c = cnt l q := ⟨_, rfl⟩
          have kb' : Blk wr w9.heap.size #[.int .i64 b, .int .i64 l, .int .i64 o, .bool false, .bool false, .bool false] 158 := by rw [ho]; exact kb
          have hsc : sCnt (some (b, l, q)) = c := hc.symm
          rw [hsc] at hc0 hc9 ⊢
          rw [← hc] at hc1 hc2 hc3 HLL
          rw [← ho] at HLL
          have hwf : wfi b ∧ wfi l ∧ wfi o := by unfold wfi; omega
          have HWF := hide hwf
          have hO2 := turn_or (S := fun _ => False) (turn_below hBq) HO1.out (fun _ _ => id)
          have HOWN := hide (hO2.1.alloc (.cells #[.int .i64 b, .int .i64 l, .int .i64 o, .bool false, .bool false, .bool false] 158))
          rw [HLEN0.out] at HOWN
          have HLEN := hide (show (cells6 (b, l, o, false, false, false)).length = 1 * 6 from rfl)
          have HNEWS := hide (news6 wr (b, l, o, false, false, false))
          have HONE := hide (one6 (b, l, o, false, false, false))
          have HRS := hide hO2.2
          have HLT := hide hO2.1.lt
          have hszq := hBq.size
          have HB3 := hide ((HB1.out.trans (hBq.mono hsz)).alloc (by omega) (.cells #[.int .i64 b, .int .i64 l, .int .i64 o, .bool false, .bool false, .bool false] 158))
          obtain ⟨q1, q2, q3, q4, q5, q6, q7⟩ := kb'.six'
          clear hO2 hBq kb kb' ho hc hsc hwf
          go_wp2_with (at_builtin; refine wpList_append_own _ rfl _ _ 68 rfl w.heap.size 158 i0 (.agg #[.int .i64 0, .int .i64 0, .int .i64 0, .bool false, .bool false, .bool false]) 6 32 Tryz.underlying68 hi hz0 hz1 hz2 rfl (by decide) (.slice A m cap) m (flat rs) rfl HOWN.out ⟨wr.heap.size, 0, none⟩ 1 1 (cells6 (b, l, o, false, false, false)) rfl HLEN.out HNEWS.out HONE.out (by unfold maxLen; omega) (by omega) (by simp; omega) ?_; intro v' w3 hown3 hgr3 _; obtain ⟨A', cap', he⟩ := or_shape hown3; subst he; have hO3 := or_more (W := wr) (v := .slice A m cap) (g := (b, l, o, false, false, false)) HRS.out HWF.out (by rw [HLEN0.out]; exact hown3); have t3 := grown_turn hgr3; have hfar : ∀ j, (Value.slice A m cap).ownBlock = some j → w.heap.size ≤ j := fun j hj => (HLT.out j hj).1; have HB4 := hide (below_turn HB3.out t3 hfar (by simp; omega)); have HO3 := hide hO3; clear hO3 t3 hfar hown3 hgr3)
          refine ⟨⟨A', m + 1, cap', rs ++ [(b, l, o, false, false, false)], n, a + c, z - c, by go_num, by go_num, rfl, by omega, by omega, by omega, by omega, by omega, by omega, HO3.out, by rw [HLL.out, HAZ.out]; simp, HB4.out⟩, ?_⟩
          simp [intOf]; omega
    · have hzz : z = 0 := by omega
      subst hzz
      have hLe : L = rs := by rw [hLL, cvList_end _ _ _ (by omega), List.append_nil]
      subst hLe
      have HO1 := hide hO
      have HB1 := hide hB
      clear hLL hO hB
      go_wp2_with fail
      go_ret2
      exact ⟨A, m, cap, rfl, HO1.out, HB1.out⟩

theorem sCover_any (f s : Int) (w : World) (h1 : -9223372036854775808 ≤ f ∧ f ≤ 9223372036854775807) (h2 : -9223372036854775808 ≤ s ∧ s ≤ 9223372036854775807) :
    Calls Tryz.prog 202 #[.int .i64 f, .int .i64 s] w (CvPost w (cvOk f s) (cvL f s)) := by
  unfold cvL
  cases e : cvOk f s
  · exact sCover_bad f s w h1 h2 e
  · unfold cvOk grn at e
    simp at e
    exact sCover_good f s w (by omega) (by omega) (by omega) (by omega) (by omega)
end Go.Proofs.YtngdgogjlpjjpaeGreat

namespace Go.Proofs.YtngdgogjlpjjpaeGreat
open Go.RowKit
set_option linter.unusedVariables false
set_option linter.unusedSimpArgs false
set_option maxRecDepth 100000

/-- regions with their rights set -/
def rgt (r x y : Bool) (g : Rg) : Rg := (g.1, g.2.1, g.2.2.1, r, x, y)
def rts (r x y : Bool) (L : List Rg) : List Rg := L.map (rgt r x y)
theorem rts_len (r x y : Bool) (L : List Rg) : (rts r x y L).length = L.length := by simp [rts]
theorem rts_step (r x y : Bool) (L : List Rg) (k : Nat) (h : k < L.length) : (rts r x y L).take (k + 1) = (rts r x y L).take k ++ [rgt r x y (L.getD k z6)] := by
  rw [List.take_add_one]
  congr 1
  simp [rts, List.getD_eq_getElem?_getD, h]
theorem cvList_len : ∀ (n : Nat) (en a : Int), (cvList en n a).length ≤ n
  | 0, en, a => by simp [cvList]
  | n + 1, en, a => by
    unfold cvList
    split
    · unfold cvTurn
      split
      · have := cvList_len n en
        simp only [List.length_cons]
        exact Nat.succ_le_succ (this _)
      · simp
    · simp
theorem cvL_len (f s : Int) : (cvL f s).length ≤ 8192 := by
  unfold cvL
  split
  · rename_i h
    unfold cvAll
    unfold cvOk grn at h
    simp at h
    have := cvList_len (s / 32).toNat (f + s) f
    omega
  · simp
end Go.Proofs.YtngdgogjlpjjpaeGreat
