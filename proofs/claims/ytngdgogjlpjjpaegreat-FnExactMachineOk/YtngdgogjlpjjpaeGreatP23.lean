import Derived.ChangeOld
import Derived.OpenShut
import Derived.ProofKit
import Derived.ShutString
import Derived.Test.YtngdgogjlpjjpaeGreatP00
import Derived.Test.YtngdgogjlpjjpaeGreatP01
import Derived.Test.YtngdgogjlpjjpaeGreatP14
import Derived.Test.YtngdgogjlpjjpaeGreatP16
namespace Go.Proofs.YtngdgogjlpjjpaeGreat
open Go.RowKit Classical
set_option linter.unusedVariables false
set_option maxHeartbeats 2000000 in
theorem l2Best_wide (a s l : Int) (w : World) (hl : 8 ≤ l) (hl2 : l ≤ 14) (ha : 0 ≤ a) (hs : 0 < s) (has : a + s ≤ 262144) :
    Calls Tryz.prog 247 #[.int .i64 l, .int .i64 a, .int .i64 s] w (BePost w (baseOf a l) l (cnt l (qOf a (a + s) l)) (qOf a (a + s) l)) := by
  obtain ⟨P, hP⟩ : ∃ P, (2:Int)^(l - 3).toNat = P := ⟨_, rfl⟩
  obtain ⟨N, hN⟩ : ∃ N, (2:Int)^l.toNat = N := ⟨_, rfl⟩
  obtain ⟨g1, g2, g3, g4, g5, g6, g7⟩ := parts a l P N (by omega) (by omega) hP hN ha (by omega)
  obtain ⟨b0, b1, b2, b3, b4⟩ := base_ok a l N (by omega) (by omega) hN ha (by omega)
  have hdm := div_mul_base a N ha (by omega)
  have hjle := jj_le a (a + s) l g5
  have HIN := hide (part_in a (a + s) l P N (by omega) hl2 hP hN ha (by omega) has)
  have HQ := hide (show qOf a (a + s) l = runq (i0Of a l) (jj a (a + s) l) ∧ cnt l (qOf a (a + s) l) = (jj a (a + s) l : Int) * P from by
    have e := qOf_wide a (a + s) l hl
    refine ⟨e, ?_⟩
    rw [e]
    exact cnt_run l P hP _ _ g5 hjle)
  obtain ⟨b, hb⟩ : ∃ b, b = a - a % N := ⟨_, rfl⟩
  have hbo : baseOf a l = b := by unfold baseOf; rw [hN, hb]
  rw [← hb] at b0 b1 b2 hdm
  have HP2 := hide (fun w => l2Power_any l (by omega) (by omega) w)
  rw [hN] at HP2
  have hwf : (Lit.int .i64 b).wf = true := by simp [Lit.wf, IntKind.min, IntKind.max, IntKind.bits, IntKind.signed]; omega
  have HR := hide (fun w => sRegionOk_any b l 0 false false false w hwf)
  have hrok : rok b l 0 = true := by unfold rok; rw [hN]; simp; omega
  rw [hrok] at HR
  rw [hbo] at HIN ⊢
  generalize i0Of a l = i0 at *
  generalize jj a (a + s) l = j at *
  generalize qOf a (a + s) l = q at *
  have hd8 : N / 8 = P := by omega
  have hN1 : N ≤ 16384 := by omega
  have hN0 : 0 < N := by omega
  clear hP hN g1 g4 g6 g7 hrok hbo b2 b3 b4 hb hwf
  go_enter Tryz.func247, Tryz.ntmps247
  go_wp2_with fail
  refine (HP2.out _).mono ?_
  rintro e w1 ⟨rfl, rfl⟩
  go_wp2_with fail
  refine (HR.out _).mono ?_
  rintro e w2 ⟨rfl, hb2⟩
  have kz := ((Blk.new w #[.int .i64 0, .int .i64 0, .int .i64 0, .bool false, .bool false, .bool false] 158).alloc (.cells #[.int .i64 b, .int .i64 l, .int .i64 0, .bool false, .bool false, .bool false] 158)).below hb2
  have kr := (Blk.new (w.alloc (.cells #[.int .i64 0, .int .i64 0, .int .i64 0, .bool false, .bool false, .bool false] 158)) #[.int .i64 b, .int .i64 l, .int .i64 0, .bool false, .bool false, .bool false] 158).below hb2
  simp only [World.size_alloc] at kr
  have HB2 := hide ((((Below.refl w.heap.size w).alloc (Nat.le_refl _) (.cells #[.int .i64 0, .int .i64 0, .int .i64 0, .bool false, .bool false, .bool false] 158)).alloc (by simp) (.cells #[.int .i64 b, .int .i64 l, .int .i64 0, .bool false, .bool false, .bool false] 158)).trans (hb2.mono (by simp; omega)))
  have KZ := hide kz
  have KR := hide kr
  clear kz kr hb2
  go_wp2_with fail
  rw [hd8]
  have b1' : b ≤ 262144 := by omega
  clear hd8 hdm b1 hN1 hN0
  have HOFF := hide (show ∀ i, i ≤ 8 → ∃ o, o = 2 ^ i - 1 - runq i0 (ci i0 j i) ∧ o ≤ 255 from fun i hi => ⟨_, rfl, by
    have : 2 ^ i ≤ 2 ^ 8 := Nat.pow_le_pow_right (by omega) hi
    omega⟩)
  go_loopw [12, 13] (fun c x wr => ∃ (i o : Nat), i ≤ 8 ∧ c = .int .i64 ((ci i0 j i : Int) * P) ∧ x = .int .i64 (i : Int) ∧ o = 2 ^ i - 1 - runq i0 (ci i0 j i) ∧ Blk wr (w.heap.size + 1) #[.int .i64 b, .int .i64 l, .int .i64 (o : Int), .bool false, .bool false, .bool false] 158 ∧ Blk wr w.heap.size #[.int .i64 0, .int .i64 0, .int .i64 0, .bool false, .bool false, .bool false] 158 ∧ Below w.heap.size w wr) (fun _ x _ => 8 - (intOf x).toNat)
  case atStart =>
    have h0 : ci i0 j 0 = 0 := by simp [ci]
    exact ⟨0, 0, by omega, by rw [h0]; simp, rfl, by simp, KR.out, KZ.out, HB2.out⟩
  case round =>
    obtain ⟨i, o, hi, rfl, rfl, ho, kr, kz, hB⟩ := hrel
    have ho8 : o ≤ 255 := by
      have : 2 ^ i ≤ 2 ^ 8 := Nat.pow_le_pow_right (by omega) hi
      omega
    have hci : ci i0 j i ≤ 8 := by unfold ci; omega
    obtain ⟨c, hc⟩ : ∃ c : Int, c = (ci i0 j i : Int) * P := ⟨_, rfl⟩
    have hc0 : 0 ≤ c := by rw [hc]; exact Int.mul_nonneg (by omega) (by omega)
    have hc1 : c ≤ 16384 := by
      have : (ci i0 j i : Int) * P ≤ 8 * P := Int.mul_le_mul_of_nonneg_right (by omega) (by omega)
      omega
    have HCC := hide hc
    rw [← hc]
    have HOO := hide ho
    have HB := hide hB
    have KR2 := hide kr
    have KZ2 := hide kz
    obtain ⟨q1, q2, q3, q4, q5, q6, q7⟩ := kz.six'
    obtain ⟨p1, p2, p3, p4, p5, p6, p7⟩ := kr.six'
    clear hc ho kr kz hB HB2 KZ KR
    by_cases h8 : i < 8
    · have hiP0 : 0 ≤ (i : Int) * P := Int.mul_nonneg (by omega) (by omega)
      have hiP1 : (i : Int) * P ≤ 16384 := by
        have : (i : Int) * P ≤ 8 * P := Int.mul_le_mul_of_nonneg_right (by omega) (by omega)
        omega
      have hin := HIN.out i h8
      by_cases hp : i0 ≤ i ∧ i < i0 + j
      · obtain ⟨k1, k2, k3⟩ := hin.2 hp
        have HN := hide (ci_in i0 g5 j (by omega) i h8 hp)
        clear hin hp
        go_wp2_with fail
        constructor
        · exact ⟨i + 1, o, by omega, by rw [HN.out.1, HCC.out]; congr 1; rw [Int.natCast_add, Int.add_mul]; simp, by go_num, by rw [HOO.out]; exact HN.out.2, KR2.out, KZ2.out, HB.out⟩
        · simp [intOf]; omega
      · have HN := hide (ci_out i0 g5 j (by omega) i h8 ⟨by omega, hjle⟩)
        obtain ⟨X, hX⟩ : ∃ X : Nat, X = 2 ^ i := ⟨_, rfl⟩
        have hX8 : X ≤ 256 := by
          have : 2 ^ i ≤ 2 ^ 8 := Nat.pow_le_pow_right (by omega) hi
          omega
        have HP3 := hide (show ∀ w, Calls Tryz.prog 275 #[.int .i64 (i : Int)] w fun e w' => e = .returned (.int .i64 (X : Int)) ∧ w' = w from fun w => (l2Power_any (i : Int) (by omega) (by omega) w).mono fun e w' h => ⟨by rw [h.1, hX]; simp, h.2⟩)
        have HX := hide hX
        have hor : (b + (i : Int) * P < a) ∨ (a ≤ b + (i : Int) * P ∧ a + s < b + (i : Int) * P + P) ∨ (a ≤ b + (i : Int) * P ∧ b + (i : Int) * P + P ≤ a + s ∧ a % P ≠ 0) := by
          by_cases u1 : a ≤ b + (i : Int) * P
          · by_cases u2 : b + (i : Int) * P + P ≤ a + s
            · exact Or.inr (Or.inr ⟨u1, u2, fun u3 => hp (hin.1 ⟨u1, u2, u3⟩)⟩)
            · exact Or.inr (Or.inl ⟨u1, by omega⟩)
          · exact Or.inl (by omega)
        clear hin hp hX
        have HREL := hide (show ∀ W, W = (wr.setCell ⟨w.heap.size + 1, 2, none⟩ (.int .i64 ((o : Int) + (X : Int)))).drew → ∃ (i_1 o : Nat), i_1 ≤ 8 ∧ Value.int .i64 c = .int .i64 ((ci i0 j i_1 : Int) * P) ∧ Value.int .i64 ((i : Int) + 1) = .int .i64 (i_1 : Int) ∧ o = 2 ^ i_1 - 1 - runq i0 (ci i0 j i_1) ∧ Blk W (w.heap.size + 1) #[.int .i64 b, .int .i64 l, .int .i64 (o : Int), .bool false, .bool false, .bool false] 158 ∧ Blk W w.heap.size #[.int .i64 0, .int .i64 0, .int .i64 0, .bool false, .bool false, .bool false] 158 ∧ Below w.heap.size w W from by
          rintro W rfl
          refine ⟨i + 1, o + X, by omega, by rw [HN.out.1, HCC.out], by simp, by rw [HOO.out, HX.out]; exact HN.out.2, ?_, (show Blk (wr.setCell ⟨w.heap.size + 1, 2, none⟩ (.int .i64 ((o : Int) + (X : Int)))) _ _ _ from Blk.other KZ2.out _ _ (by simp)), (HB.out.setCell (by simp) _).drew⟩
          have := Blk.set KR2.out 2 (.int .i64 ((o : Int) + (X : Int)))
          rw [Int.natCast_add]
          exact this)
        have hwr : IntKind.i64.wrap ((o : Int) + (X : Int)) = (o : Int) + (X : Int) := cv_wrap (by omega) (by omega)
        rcases hor with u | ⟨u1, u2⟩ | ⟨u1, u2, u3⟩
        · go_wp2_with fail
          go_region_with (go_at_call 275; refine (HP3.out _).mono ?_; rintro e w3 ⟨rfl, rfl⟩)
          all_goals
            try rw [hwr]
            go_wp2_with fail
            constructor
            · exact HREL.out _ rfl
            · simp [intOf]; omega
        · have u2n : ¬ (b + (i : Int) * P + P ≤ a + s) := by omega
          go_wp2_with fail
          all_goals first
            | (exfalso; omega)
            | (go_region_with (go_at_call 275; refine (HP3.out _).mono ?_; rintro e w3 ⟨rfl, rfl⟩)
               all_goals (try rw [hwr])
               all_goals go_wp2_with fail
               all_goals (refine ⟨HREL.out _ rfl, ?_⟩; simp [intOf]; omega))
        · have u3' : (a % P == 0) = false := by simpa using u3
          clear u3
          go_wp2_with fail
          go_region_with (go_at_call 275; refine (HP3.out _).mono ?_; rintro e w3 ⟨rfl, rfl⟩)
          all_goals
            try rw [hwr]
            go_wp2_with fail
            constructor
            · exact HREL.out _ rfl
            · simp [intOf]; omega
    · have hi8 : i = 8 := by omega
      subst hi8
      have hq : (o : Int) = 255 - (q : Int) := by
        have := HOO.out
        rw [ci_end i0 g5 j (by omega) hjle, ← HQ.out.1] at this
        have hq255 : q < 256 := by rw [HQ.out.1]; exact runq_lt i0 g5 j (by omega) hjle
        omega
      have hc' : cnt l q = c := by rw [HQ.out.2, HCC.out, ci_end i0 g5 j (by omega) hjle]
      have HC2 := hide hc'
      have HQ2 := hide hq
      clear hq hc'
      go_wp2_with fail
      rw [HC2.out]
      refine be_end w _ _ b l (o : Int) c q ?_ ?_ (be_set KZ2.out b l (o : Int)) (be_below (Nat.le_refl _) HB.out b l (o : Int)) (fun _ => HQ2.out)
      · rfl
      · rfl
theorem l2Best_any (a s l : Int) (w : World) (hl : 5 ≤ l) (hl2 : l ≤ 14) (ha : 0 ≤ a) (hs : 0 < s) (has : a + s ≤ 262144) :
    Calls Tryz.prog 247 #[.int .i64 l, .int .i64 a, .int .i64 s] w (BePost w (baseOf a l) l (cnt l (qOf a (a + s) l)) (qOf a (a + s) l)) := by
  by_cases h : l < 8
  · exact l2Best_narrow a s l w hl h ha hs has
  · exact l2Best_wide a s l w (by omega) hl2 ha hs has
set_option maxHeartbeats 1000000 in
theorem sCover_bad (f s : Int) (w : World) (h1 : -9223372036854775808 ≤ f ∧ f ≤ 9223372036854775807) (h2 : -9223372036854775808 ≤ s ∧ s ≤ 9223372036854775807) (h : cvOk f s = false) :
    Calls Tryz.prog 202 #[.int .i64 f, .int .i64 s] w (CvPost w false []) := by
  have HO := hide (or_empty w w.heap.size (Nat.le_refl _))
  have HB := hide ((Below.refl w.heap.size w).alloc (Nat.le_refl _) (.cells #[] 158))
  have HE := hide (show ∀ e W, W = w.alloc (.cells #[] 158) → e = Ending.returned (.tuple #[.slice (some ⟨w.heap.size, 0, none⟩) 0 0, .bool false]) → CvPost w false [] e W from by
    rintro e W rfl rfl
    exact ⟨_, 0, 0, rfl, HO.out, HB.out⟩)
  have hor : f < 0 ∨ (0 ≤ f ∧ s < 0) ∨ (0 ≤ f ∧ 0 ≤ s ∧ 262144 < f) ∨ (0 ≤ f ∧ 0 ≤ s ∧ f ≤ 262144 ∧ 262144 < s) ∨ (0 ≤ f ∧ 0 ≤ s ∧ f ≤ 262144 ∧ s ≤ 262144 ∧ 262144 < f + s) ∨ (0 ≤ f ∧ 0 ≤ s ∧ f ≤ 262144 ∧ s ≤ 262144 ∧ f + s ≤ 262144 ∧ f % 32 ≠ 0) ∨ (0 ≤ f ∧ 0 ≤ s ∧ f ≤ 262144 ∧ s ≤ 262144 ∧ f + s ≤ 262144 ∧ f % 32 = 0 ∧ s % 32 ≠ 0) := by
    unfold cvOk grn at h
    simp at h
    omega
  clear h
  rcases hor with u | ⟨u1, u2⟩ | ⟨u1, u2, u3⟩ | ⟨u1, u2, u3, u4⟩ | ⟨u1, u2, u3, u4, u5⟩ | ⟨u1, u2, u3, u4, u5, u6⟩ | ⟨u1, u2, u3, u4, u5, u6, u7⟩
  case inr.inr.inr.inr.inr.inl =>
    have u6' : (f % 32 != 0) = true := by simpa using u6
    clear u6
    go_enter Tryz.func202, Tryz.ntmps202
    go_wp2_with fail
    go_ret2
    exact HE.out _ _ rfl rfl
  case inr.inr.inr.inr.inr.inr =>
    have u6' : (f % 32 != 0) = false := by simpa using u6
    have u7' : (s % 32 != 0) = true := by simpa using u7
    clear u6 u7
    go_enter Tryz.func202, Tryz.ntmps202
    go_wp2_with fail
    go_ret2
    exact HE.out _ _ rfl rfl
  all_goals
    go_enter Tryz.func202, Tryz.ntmps202
    go_wp2_with fail
    go_ret2
    exact HE.out _ _ rfl rfl
def bcells : CSt → Array Value
  | none => #[.int .i64 0, .int .i64 0, .int .i64 0, .bool false, .bool false, .bool false]
  | some (b, l, q) => #[.int .i64 b, .int .i64 l, .int .i64 (255 - (q : Int)), .bool false, .bool false, .bool false]
theorem bcells_six (s : CSt) : ∃ x y z, bcells s = #[.int .i64 x, .int .i64 y, .int .i64 z, .bool false, .bool false, .bool false] := by
  match s with
  | none => exact ⟨_, _, _, rfl⟩
  | some (b, l, q) => exact ⟨_, _, _, rfl⟩
theorem sCnt_le (a en : Int) (ha : 0 ≤ a) (hae : a < en) (hen : en ≤ 262144) (n : Nat) (hn : n ≤ 10) : sCnt (cvFold a en n) ≤ 262144 := by
  match h : cvFold a en n with
  | none => simp [sCnt]
  | some (b, l, q) =>
    obtain ⟨k1, k2, k3, k4⟩ := cvFold_gives a en ha hae hen n hn b l q h
    obtain ⟨c1, c2⟩ := qOf_cnt a en l k1 k2 ha hae hen
    rw [← k4] at c1
    simp only [sCnt]
    omega
set_option maxRecDepth 100000 in
set_option maxHeartbeats 2000000 in
theorem sCover_good (f s : Int) (w : World) (hf : 0 ≤ f) (hf32 : f % 32 = 0) (hs : 0 ≤ s) (hs32 : s % 32 = 0) (hfs : s ≤ 262144 - f) :
    Calls Tryz.prog 202 #[.int .i64 f, .int .i64 s] w (CvPost w true (cvAll f s)) := by
  obtain ⟨i0, hi, hz0, hz1, hz2⟩ := info_parts infoR
  obtain ⟨L, hL⟩ : ∃ L, L = cvAll f s := ⟨_, rfl⟩
  rw [← hL]
  unfold cvAll at hL
  have HL := hide hL
  clear hL
  have HO := hide (or_empty w w.heap.size (Nat.le_refl _))
  have HB := hide ((Below.refl w.heap.size w).alloc (Nat.le_refl _) (.cells #[] 158))
  have k1 : (f % 32 != 0) = false := by simpa using hf32
  have k2 : (s % 32 != 0) = false := by simpa using hs32
  have k3 : f + s ≤ 262144 := by omega
  have k4 : f ≤ 262144 := by omega
  have k5 : s ≤ 262144 := by omega
  go_enter Tryz.func202, Tryz.ntmps202
  go_wp2_with fail
  go_loopw [0, 1, 6] (fun x y r wr => ∃ (A : Option Addr) (m cap : Nat) (rs : List Rg) (n : Nat) (a z : Int), x = .int .i64 a ∧ y = .int .i64 z ∧ r = .slice A m cap ∧ f ≤ a ∧ a + z = f + s ∧ 0 ≤ z ∧ a % 32 = 0 ∧ z ≤ 32 * (n : Int) ∧ m + n ≤ 8192 ∧ ORg wr w.heap.size (.slice A m cap) rs ∧ L = rs ++ cvList (f + s) n a ∧ Below w.heap.size w wr) (fun _ y _ _ => (intOf y).toNat)
  case atStart => exact ⟨_, 0, 0, [], (s / 32).toNat, f, s, rfl, rfl, rfl, by omega, by omega, by omega, hf32, by omega, by omega, HO.out, by rw [HL.out]; rfl, HB.out⟩
  case round =>
    obtain ⟨A, m, cap, rs, n, a, z, rfl, rfl, rfl, ha, haz, hz, ha32, hn, hmn, hO, hLL, hB⟩ := hrel
    obtain ⟨w9, hw9⟩ : ∃ w9, w9 = wr := ⟨_, rfl⟩
    subst hw9
    by_cases hlt : 0 < z
    · rw [← haz] at hLL
      have hlen := (or_rs hO).1
      obtain ⟨b, l, q, hF, hl, hl2, hq, hc1, hc2, hc3, hb, _⟩ := chosen a (a + z) (by omega) (by omega) (by omega) ha32 (by omega)
      obtain ⟨n, rfl⟩ : ∃ n', n = n' + 1 := ⟨n - 1, by omega⟩
      rw [cvList_step (a + z) n a b l q (by omega) hF] at hLL
      have hbw : 0 ≤ b ∧ b ≤ 262144 := by
        have := base_ok a l _ hl hl2 rfl (by omega) (by omega)
        have := pow_pos l.toNat
        rw [hb]
        unfold baseOf
        omega
      clear hb
      have HF := hide hF
      have HLL := hide hLL
      have HO1 := hide hO
      have HB1 := hide hB
      have HLEN0 := hide hlen
      have HAZ := hide haz
      have hsz := hB.size
      have KZ := hide (Blk.new w9 #[.int .i64 0, .int .i64 0, .int .i64 0, .bool false, .bool false, .bool false] 158)
      clear hLL hO hB hF hlen HO HB
      go_wp2_with fail
      go_loopw [8, 9] (fun mo lg wq => ∃ (k : Nat), k ≤ 10 ∧ mo = .int .i64 (sCnt (cvFold a (a + z) k)) ∧ lg = .int .i64 (5 + (k : Int)) ∧ Blk wq w9.heap.size (bcells (cvFold a (a + z) k)) 158 ∧ Below w9.heap.size w9 wq) (fun _ lg _ => 15 - (intOf lg).toNat)
      case atStart => exact ⟨0, by omega, by rw [cvFold_none]; rfl, rfl, by rw [cvFold_none]; exact KZ.out, (Below.refl _ _).alloc (Nat.le_refl _) _⟩
      case round =>
        obtain ⟨k, hk, rfl, rfl, kb, hBq⟩ := hrel
        have hc0 := sCnt_nonneg (cvFold a (a + z) k)
        have hc9 := sCnt_le a (a + z) (by omega) (by omega) (by omega) k hk
        by_cases hk10 : k < 10
        · have HBE := hide (l2Best_any a z (5 + (k : Int)) wr (by omega) (by omega) (by omega) hlt (by omega))
          have HSU := hide (cvFold_succ a (a + z) k)
          obtain ⟨x1, x2, x3, hx⟩ := bcells_six (cvFold a (a + z) k)
          rw [hx] at kb
          have hqc := qOf_cnt a (a + z) (5 + (k : Int)) (by omega) (by omega) (by omega) (by omega) (by omega)
          have hqn := cnt_nonneg (5 + (k : Int)) (qOf a (a + z) (5 + (k : Int)))
          generalize hst : cvFold a (a + z) k = st at *
          generalize hcq : cnt (5 + (k : Int)) (qOf a (a + z) (5 + (k : Int))) = c at *
          generalize hbb : baseOf a (5 + (k : Int)) = bb at *
          obtain ⟨sc, hsc⟩ : ∃ sc, sc = sCnt st := ⟨_, rfl⟩
          rw [← hsc] at hc0 hc9 ⊢
          have HSC := hide hsc
          have HCQ := hide hcq
          have HX := hide hx
          have hcle : c ≤ 262144 := by omega
          have KB := hide kb
          have HBQ := hide hBq
          have hszq := hBq.size
          have hltq := kb.lt
          clear hsc hcq hx hqc hst hbb kb hBq
          go_wp2_with fail
          refine HBE.out.mono ?_
          rintro e w3 ⟨o, rfl, ho, hb3⟩
          have HO3 := hide ho
          have kb3 := (KB.out.below hb3).alloc (.cells #[.int .i64 bb, .int .i64 (5 + (k : Int)), .int .i64 o, .bool false, .bool false, .bool false] 158)
          have hsz3 := hb3.size
          have HB3 := hide ((HBQ.out.trans (hb3.mono hszq)).alloc (by omega) (.cells #[.int .i64 bb, .int .i64 (5 + (k : Int)), .int .i64 o, .bool false, .bool false, .bool false] 158))
          have KB3 := hide kb3
          obtain ⟨q1, q2, q3, q4, q5, q6, q7⟩ := kb3.six'
          clear ho hb3 kb3
          by_cases hgt : sc < c
          · have HE := hide (show cvFold a (a + z) (k + 1) = some (bb, 5 + (k : Int), qOf a (a + z) (5 + (k : Int))) from by
              rw [HSU.out]
              unfold keep
              rw [if_pos (by rw [← HSC.out, HCQ.out]; exact hgt)])
            go_wp2_with fail
            refine ⟨⟨k + 1, by omega, by rw [HE.out]; exact congrArg (Value.int .i64) HCQ.out.symm, by go_num, ?_, be_below (Nat.le_refl _) HB3.out bb (5 + (k : Int)) o⟩, by simp [intOf]; omega⟩
            rw [HE.out]
            have e2 : bcells (some (bb, 5 + (k : Int), qOf a (a + z) (5 + (k : Int)))) = #[.int .i64 bb, .int .i64 (5 + (k : Int)), .int .i64 o, .bool false, .bool false, .bool false] := by
              simp only [bcells]
              rw [HO3.out (by omega)]
            rw [e2]
            exact Blk.set (Blk.set (Blk.set (Blk.set (Blk.set (Blk.set KB3.out 0 _) 1 _) 2 _) 3 _) 4 _) 5 _
          · have HE := hide (show cvFold a (a + z) (k + 1) = st from by
              rw [HSU.out]
              unfold keep
              rw [if_neg (by rw [← HSC.out, HCQ.out]; exact hgt)])
            go_wp2_with fail
            exact ⟨⟨k + 1, by omega, by rw [HE.out, HSC.out], by go_num, by rw [HE.out, HX.out]; exact KB3.out, HB3.out⟩, by simp [intOf]; omega⟩
        · have hk' : k = 10 := by omega
          subst hk'
          rw [HF.out] at kb hc0 hc9 ⊢
          obtain ⟨o, ho⟩ : ∃ o, o = 255 - (q : Int) := ⟨_, rfl⟩
          obtain ⟨c, hc⟩ : ∃ c, c = cnt l q := ⟨_, rfl⟩
          have kb' : Blk wr w9.heap.size #[.int .i64 b, .int .i64 l, .int .i64 o, .bool false, .bool false, .bool false] 158 := by rw [ho]; exact kb
          have hsc : sCnt (some (b, l, q)) = c := hc.symm
          rw [hsc] at hc0 hc9 ⊢
          rw [← hc] at hc1 hc2 hc3 HLL
          rw [← ho] at HLL
          have hwf : wfi b ∧ wfi l ∧ wfi o := by unfold wfi; omega
          have HWF := hide hwf
          have hO2 := turn_or (S := fun _ => False) (turn_below hBq) HO1.out (fun _ _ => id)
          have HOWN := hide (hO2.1.alloc (.cells #[.int .i64 b, .int .i64 l, .int .i64 o, .bool false, .bool false, .bool false] 158))
          rw [HLEN0.out] at HOWN
          have HLEN := hide (show (cells6 (b, l, o, false, false, false)).length = 1 * 6 from rfl)
          have HNEWS := hide (news6 wr (b, l, o, false, false, false))
          have HONE := hide (one6 (b, l, o, false, false, false))
          have HRS := hide hO2.2
          have HLT := hide hO2.1.lt
          have hszq := hBq.size
          have HB3 := hide ((HB1.out.trans (hBq.mono hsz)).alloc (by omega) (.cells #[.int .i64 b, .int .i64 l, .int .i64 o, .bool false, .bool false, .bool false] 158))
          obtain ⟨q1, q2, q3, q4, q5, q6, q7⟩ := kb'.six'
          clear hO2 hBq kb kb' ho hc hsc hwf
          go_wp2_with (at_builtin; refine wpList_append_own _ rfl _ _ 68 rfl w.heap.size 158 i0 (.agg #[.int .i64 0, .int .i64 0, .int .i64 0, .bool false, .bool false, .bool false]) 6 32 Tryz.underlying68 hi hz0 hz1 hz2 rfl (by decide) (.slice A m cap) m (flat rs) rfl HOWN.out ⟨wr.heap.size, 0, none⟩ 1 1 (cells6 (b, l, o, false, false, false)) rfl HLEN.out HNEWS.out HONE.out (by unfold maxLen; omega) (by omega) (by simp; omega) ?_; intro v' w3 hown3 hgr3 _; obtain ⟨A', cap', he⟩ := or_shape hown3; subst he; have hO3 := or_more (W := wr) (v := .slice A m cap) (g := (b, l, o, false, false, false)) HRS.out HWF.out (by rw [HLEN0.out]; exact hown3); have t3 := grown_turn hgr3; have hfar : ∀ j, (Value.slice A m cap).ownBlock = some j → w.heap.size ≤ j := fun j hj => (HLT.out j hj).1; have HB4 := hide (below_turn HB3.out t3 hfar (by simp; omega)); have HO3 := hide hO3; clear hO3 t3 hfar hown3 hgr3)
          refine ⟨⟨A', m + 1, cap', rs ++ [(b, l, o, false, false, false)], n, a + c, z - c, by go_num, by go_num, rfl, by omega, by omega, by omega, by omega, by omega, by omega, HO3.out, by rw [HLL.out, HAZ.out]; simp, HB4.out⟩, ?_⟩
          simp [intOf]; omega
    · have hzz : z = 0 := by omega
      subst hzz
      have hLe : L = rs := by rw [hLL, cvList_end _ _ _ (by omega), List.append_nil]
      subst hLe
      have HO1 := hide hO
      have HB1 := hide hB
      clear hLL hO hB
      go_wp2_with fail
      go_ret2
      exact ⟨A, m, cap, rfl, HO1.out, HB1.out⟩
theorem sCover_any (f s : Int) (w : World) (h1 : -9223372036854775808 ≤ f ∧ f ≤ 9223372036854775807) (h2 : -9223372036854775808 ≤ s ∧ s ≤ 9223372036854775807) :
    Calls Tryz.prog 202 #[.int .i64 f, .int .i64 s] w (CvPost w (cvOk f s) (cvL f s)) := by
  unfold cvL
  cases e : cvOk f s
  · exact sCover_bad f s w h1 h2 e
  · unfold cvOk grn at e
    simp at e
    exact sCover_good f s w (by omega) (by omega) (by omega) (by omega) (by omega)
end Go.Proofs.YtngdgogjlpjjpaeGreat
namespace Go.Proofs.YtngdgogjlpjjpaeGreat
open Go.RowKit Classical
set_option linter.unusedVariables false
set_option linter.unusedSimpArgs false
set_option maxRecDepth 100000
theorem or_rowle {base n cap : Nat} {a : Option Addr} {w : World} {rs : List Rg} (h : ORg w base (.slice a n cap) rs) (k : Nat) (hk : (Value.slice a n cap).ownBlock = some k) : base ≤ k := by
  obtain ⟨hl, ⟨h0, _⟩ | ⟨g', cap', cur, hv, hg, hh, h1, h2, h3, h4⟩⟩ := h.1
  · rw [h0] at hk; cases hk
  · rw [hv] at hk
    have e : some g' = some k := hk
    injection e with e
    omega
set_option maxHeartbeats 2000000 in
theorem l6With_any (A : Option Addr) (m cap : Nat) (rs : List Rg) (f s : Int) (r x y : Bool) (base : Nat) (w : World) (hb : base ≤ w.heap.size) (h : ORg w base (.slice A m cap) rs) (hf : wfi f) (hs : wfi s) (hm : m ≤ 1000000) :
    Calls Tryz.prog 134 #[.slice A m cap, .int .i64 f, .int .i64 s, .bool r, .bool x, .bool y] w fun e w' => ∃ A' m' cap', e = .returned (.slice A' m' cap') ∧ m' = m + (cvL f s).length ∧ ORg w' base (.slice A' m' cap') (rs ++ rts r x y (cvL f s)) ∧ Below base w w' := by
  obtain ⟨i0, hi, hz0, hz1, hz2⟩ := info_parts infoR
  have HC := hide (sCover_any f s w (by unfold wfi at hf; omega) (by unfold wfi at hs; omega))
  have HL := hide (cvL_len f s)
  have HO0 := hide h
  have HLEN0 := hide (or_rs h).1
  generalize cvL f s = C at *
  clear h
  go_enter Tryz.func134, Tryz.ntmps134
  go_wp2_with fail
  refine HC.out.mono ?_
  rintro e w2 ⟨c, n, cc, rfl, hC, hB2⟩
  have HN := hide (or_rs hC).1
  have hn : n ≤ 8192 := by have := HN.out; have := HL.out; omega
  have HX := hide (And.intro hC hB2)
  have HO2 := hide (turn_or' (turn_below hB2) HO0.out (fun k hk h => by exact h))
  clear hC hB2
  go_wp2_with fail
  go_loopw [0, 15] (fun o i wr => ∃ (A' : Option Addr) (m' cap' k : Nat), k ≤ n ∧ m' = m + k ∧ o = .slice A' m' cap' ∧ i = .int .i64 k ∧ ORg wr base (.slice A' m' cap') (rs ++ (rts r x y C).take k) ∧ ORg wr w.heap.size (.slice c n cc) C ∧ (∀ j, (Value.slice A' m' cap').ownBlock = some j → ¬ (Value.slice c n cc).ownBlock = some j) ∧ Below base w wr) (fun _ i _ => n - (intOf i).toNat)
  case atStart => exact ⟨A, m, cap, 0, Nat.zero_le _, rfl, rfl, rfl, by simpa using HO2.out, HX.out.1, fun j h1 h2 => by have := or_lt HO0.out j h1; have := or_rowle HX.out.1 j h2; omega, HX.out.2.mono hb⟩
  case round =>
    obtain ⟨A', m', cap', k, hk, hm', rfl, rfl, hO, hC, hd, hB⟩ := hrel
    by_cases hlt : k < n
    · have hlt' : (k : Int) < (n : Int) := by omega
      obtain ⟨b, off, rfl⟩ := (or_rs hC).some (by omega)
      have hat := (or_rs hC).at k hlt
      have hC2 := hC.2 (C.getD k z6) (by
        have : k < C.length := by rw [HN.out]; exact hlt
        simp [List.getD_eq_getElem?_getD, this])
      have HT := hide (rts_step r x y C k (by rw [HN.out]; exact hlt))
      generalize hG : C.getD k z6 = G at *
      obtain ⟨g1, g2, g3, g4, g5, g6⟩ := G
      have HG := hide hG
      obtain ⟨p0, p1, p2, p3, p4, p5⟩ := hat
      obtain ⟨W1, hW1⟩ : ∃ W1, W1 = wr.alloc (.cells #[.int .i64 g1, .int .i64 g2, .int .i64 g3, .bool g4, .bool g5, .bool g6] 158) := ⟨_, rfl⟩
      have K1 : Blk W1 wr.heap.size #[.int .i64 g1, .int .i64 g2, .int .i64 g3, .bool g4, .bool g5, .bool g6] 158 := by rw [hW1]; exact Blk.new _ _ _
      have B1 : Below wr.heap.size wr W1 := by rw [hW1]; exact (Below.refl _ _).alloc (Nat.le_refl _) _
      have s1 : W1.heap.size = wr.heap.size + 1 := by rw [hW1]; simp
      obtain ⟨W2, hW2⟩ : ∃ W2, W2 = ((W1.setCell ⟨wr.heap.size, 3, none⟩ (.bool r)).setCell ⟨wr.heap.size, 4, none⟩ (.bool x)).setCell ⟨wr.heap.size, 5, none⟩ (.bool y) := ⟨_, rfl⟩
      have K2 : Blk W2 wr.heap.size #[.int .i64 g1, .int .i64 g2, .int .i64 g3, .bool r, .bool x, .bool y] 158 := by
        rw [hW2]; exact ((K1.set 3 (.bool r)).set 4 (.bool x)).set 5 (.bool y)
      have B2 : Below wr.heap.size wr W2 := by rw [hW2]; exact ((B1.setCell (Nat.le_refl _) _).setCell (Nat.le_refl _) _).setCell (Nat.le_refl _) _
      have s2 : W2.heap.size = wr.heap.size + 1 := by rw [hW2]; simp [s1]
      have BB : Below wr.heap.size wr (W2.alloc (.cells #[.int .i64 g1, .int .i64 g2, .int .i64 g3, .bool r, .bool x, .bool y] 158)) := B2.alloc (by rw [s2]; omega) _
      have HOW := hide (show (W2.alloc (.cells #[.int .i64 g1, .int .i64 g2, .int .i64 g3, .bool r, .bool x, .bool y] 158)).ownsRow base 158 6 (.slice A' m' cap') m' (flat (rs ++ (rts r x y C).take k)) from by
        have := (turn_or' (turn_below BB) hO (fun _ _ h => h)).1
        rwa [(or_rs hO).1] at this)
      have HNEWS := hide (by have := news6 W2 (g1, g2, g3, r, x, y); rw [s2] at this; exact this)
      have HMM := hide hm'
      have HONE := hide (one6 (g1, g2, g3, r, x, y))
      have HRS := hide hO.2
      have HLB := hide (or_lt hO)
      have HGE := hide (or_rowle hO)
      have HCW := hide (turn_or' (turn_below BB) hC (fun _ _ h => h))
      have HCL := hide (or_lt hC)
      have HD := hide hd
      have HML := hide (or_rs hO).1
      have HSZ := hide (show base ≤ (W2.alloc (.cells #[.int .i64 g1, .int .i64 g2, .int .i64 g3, .bool r, .bool x, .bool y] 158)).heap.size from by have := hB.size; simp; omega)
      have HSY := hide (show (W2.alloc (.cells #[.int .i64 g1, .int .i64 g2, .int .i64 g3, .bool r, .bool x, .bool y] 158)).heap.size = wr.heap.size + 2 from by simp [s2])
      have HB3 := hide (show Below base w (W2.alloc (.cells #[.int .i64 g1, .int .i64 g2, .int .i64 g3, .bool r, .bool x, .bool y] 158)) from hB.trans (BB.mono (by have := hB.size; omega)))
      have HG2 := hide hC2
      obtain ⟨q1, q2, q3, q4, q5, q6, q7⟩ := K1.six'
      obtain ⟨u1, u2, u3, u4, u5, u6, u7⟩ := K2.six'
      have HW1 := hide hW1
      have HW2 := hide hW2
      clear hW1 hW2 K1 K2 B1 B2 BB hO hC hd hB hC2 hG hm'
      generalize hW3 : W2.alloc (.cells #[.int .i64 g1, .int .i64 g2, .int .i64 g3, .bool r, .bool x, .bool y] 158) = W3 at *
      have HW3 := hide hW3
      clear hW3
      go_wp2_with (first | rw [← HW1.out] | rw [← HW2.out] | rw [HW3.out] | (at_builtin; refine wpList_append_own_at _ rfl _ _ 68 rfl base 158 i0 (.agg #[.int .i64 0, .int .i64 0, .int .i64 0, .bool false, .bool false, .bool false]) 6 32 Tryz.underlying68 hi hz0 hz1 hz2 rfl (by decide) (.slice A' m' cap') m' (flat (rs ++ (rts r x y C).take k)) rfl HOW.out ⟨wr.heap.size + 1, 0, none⟩ 1 1 (cells6 (g1, g2, g3, r, x, y)) rfl rfl HNEWS.out HONE.out (by have := HMM.out; unfold maxLen; omega) (by have := HMM.out; omega) HSZ.out ?_; intro v' w3 hown3 hgr3 _ hat3; have HP := hide (And.intro hown3 (And.intro hgr3 hat3)); clear hown3 hgr3 hat3; obtain ⟨A2, cap2, he⟩ := or_shape HP.out.1; subst he))
      have t3 := grown_turn HP.out.2.1
      refine ⟨⟨A2, m' + 1, cap2, k + 1, by omega, by have := HMM.out; omega, rfl, by go_num, ?_, ?_, ?_, ?_⟩, by simp [intOf]; omega⟩
      · rw [HT.out, ← List.append_assoc]
        refine or_more (W := W3) (v := .slice A' m' cap') HRS.out HG2.out ?_
        rw [HML.out]
        exact HP.out.1
      · exact turn_or' t3 HCW.out (fun j hj h => HD.out j h hj)
      · intro j h1 h2
        rcases HP.out.2.2 with h | h
        · exact HD.out j (h ▸ h1) h2
        · rw [h1] at h
          injection h with h
          have := HCL.out j h2
          have := HSY.out
          omega
      · exact below_turn HB3.out t3 (fun j hj => HGE.out j hj) HSZ.out
    · have HE := hide (show k = n by omega)
      have HF := hide (And.intro hO hB)
      clear hO hC hd hB
      go_wp2
      go_ret
      refine ⟨A', m', cap', rfl, by rw [hm', HE.out, HN.out], ?_, HF.out.2⟩
      have := HF.out.1
      rwa [List.take_of_length_le (by rw [rts_len, HE.out, HN.out]; exact Nat.le_refl _)] at this
def sbO (x : List Int) : ByteArray := ⟨(x.map fun z => UInt8.ofNat z.toNat).toArray⟩
theorem sb_inj : ∀ x y : List Int, (∀ z ∈ x, 0 ≤ z ∧ z ≤ 255) → (∀ z ∈ y, 0 ≤ z ∧ z ≤ 255) → (x.map fun z => UInt8.ofNat z.toNat) = (y.map fun z => UInt8.ofNat z.toNat) → x = y
  | [], [], _, _, _ => rfl
  | [], b :: y, _, _, h => by simp at h
  | a :: x, [], _, _, h => by simp at h
  | a :: x, b :: y, hx, hy, h => by
    simp only [List.map_cons, List.cons.injEq] at h
    have h1 := hx a (by simp)
    have h2 := hy b (by simp)
    have e := congrArg UInt8.toNat h.1
    rw [UInt8.toNat_ofNat', UInt8.toNat_ofNat'] at e
    have e' : a = b := by omega
    rw [e', sb_inj x y (fun z hz => hx z (by simp [hz])) (fun z hz => hy z (by simp [hz])) h.2]
theorem sbO_eq {x y : List Int} (hx : ∀ z ∈ x, 0 ≤ z ∧ z ≤ 255) (hy : ∀ z ∈ y, 0 ≤ z ∧ z ≤ 255) : sbO x = sbO y ↔ x = y := by
  constructor
  · intro h
    unfold sbO at h
    simp at h
    exact sb_inj x y hx hy (by simpa using h)
  · rintro rfl; rfl
theorem conv_run (w : World) (a : Option Addr) (n c : Nat) (x : List Int) (h : BS w a n c x) : (convert 41 9 (.slice a n c)).run Tryz.prog w = .ok (.string (sbO x)) w := by
  obtain ⟨rfl, h2, h3, h4, h5⟩ := h
  by_cases hn : x.length = 0
  · obtain rfl : x = [] := List.eq_nil_of_length_eq_zero hn
    rw [run_convert_bytes_string w 41 9 5 a _ c Tryz.underlying41 Tryz.underlying5 Tryz.underlying9]
    cases a <;> simp [Conv.bytesToString, sbO] <;> rfl
  · obtain ⟨b, k, rfl, hc⟩ := h4 hn
    have hl : (x.map fun z => UInt8.ofNat z.toNat).length = x.length := by simp
    have := run_convert_bytes_back (P := Tryz.prog) w 41 9 5 ⟨b, k, none⟩ c (x.map fun z => UInt8.ofNat z.toNat) Tryz.underlying41 Tryz.underlying5 Tryz.underlying9 (fun j hj => by
      have hj' : j < x.length := by simpa using hj
      rw [addr_add, hc j hj']
      have e1 : x.getD j 0 = x[j] := by simp [List.getD_eq_getElem?_getD, hj']
      have hz := h3 _ (List.getElem_mem hj')
      have e2 : (UInt8.ofNat (x[j]).toNat).toNat = (x[j]).toNat % 256 := UInt8.toNat_ofNat'
      rw [List.getElem_map, e2, e1]
      congr 2
      omega)
    rw [hl] at this
    exact this
set_option maxHeartbeats 1000000 in
theorem bytesEqual_any (a a' : Option Addr) (n c n' c' : Nat) (x y : List Int) (w : World) (h : BS w a n c x) (h' : BS w a' n' c' y) :
    Calls Tryz.prog 235 #[.slice a n c, .slice a' n' c'] w fun e w' => e = .returned (.bool (decide (x = y))) ∧ w = w' := by
  have h1 := conv_run w a n c x h
  have h2 := conv_run w a' n' c' y h'
  have HE := hide (sbO_eq h.2.2.1 h'.2.2.1)
  clear h h'
  generalize sbO x = s at *
  generalize sbO y = t at *
  go_enter Tryz.func235, Tryz.ntmps235
  go_wp2
  go_ret
  refine ⟨ret_bool ?_, rfl⟩
  rw [Bool.eq_iff_iff]
  simp [← HE.out, ByteArray.toList_eq]
  exact ⟨fun h => by cases s; cases t; cases h; rfl, fun h => by rw [h]⟩
def slF (L : Lay) (b : Int) : List Int := if b = -1 ∨ L.slots = [] then [-1] else (List.range L.slots.length).map (fun i : Nat => (i : Int))
theorem is_one {w : World} {g : Nat} {v : Int} (hv : wfi v) (h : w.cell? ⟨g, 0, none⟩ = some (.int .i64 v)) : IS w (some ⟨g, 0, none⟩) 1 1 [v] := by
  refine ⟨rfl, by unfold maxLen; omega, fun z hz => ?_, fun _ => ⟨g, 0, rfl, fun i hi => ?_⟩, Nat.le_refl _⟩
  · simp at hz; rw [hz]; exact hv
  · obtain rfl : i = 0 := by omega
    simpa using h
set_option maxHeartbeats 1000000 in
theorem slotsFor_one (L : Lay) (a0 : Option Addr) (c0 : Nat) (xs : List PB) (a2 : Option Addr) (c2 : Nat) (a5 : Option Addr) (c5 : Nat) (ts : List TB) (b : Int) (w : World) (h : LyT w L a0 c0 xs a2 c2 a5 c5 ts) (hb : b = -1 ∨ L.slots = []) :
    Calls Tryz.prog 101 #[.agg #[.slice a0 xs.length c0, .int .i64 L.stack, .slice a2 L.slots.length c2, .int .i64 L.flash, .int .i64 L.ram, .slice a5 ts.length c5], .int .i64 b] w fun e w' => ∃ a c, e = .returned (.slice a (slF L b).length c) ∧ IS w' a (slF L b).length c (slF L b) ∧ Below w.heap.size w w' := by
  have HS := hide (show slF L b = [-1] by unfold slF; rw [if_pos hb])
  rw [HS.out]
  show Calls Tryz.prog 101 _ w fun e w' => ∃ a c, e = .returned (.slice a 1 c) ∧ IS w' a 1 c [-1] ∧ Below w.heap.size w w'
  have HB := hide (show Below w.heap.size w (w.alloc (.cells #[.slice a0 xs.length c0, .int .i64 L.stack, .slice a2 L.slots.length c2, .int .i64 L.flash, .int .i64 L.ram, .slice a5 ts.length c5] 36)) from (Below.refl _ _).alloc (Nat.le_refl _) _)
  clear HS
  by_cases c : b = -1
  · subst c
    clear hb h
    generalize xs.length = n at *
    generalize L.slots.length = l at *
    generalize ts.length = k at *
    go_enter Tryz.func101, Tryz.ntmps101
    go_wp2
    go_ret
    refine ⟨_, _, rfl, is_one (by unfold wfi; omega) ?_, HB.out.alloc HB.out.size _⟩
    rw [show w.heap.size + 1 = (w.alloc _).heap.size from (World.size_alloc _ _).symm]
    exact (Blk.new _ _ _).cell 0
  · have hl : L.slots.length = 0 := by rw [hb.resolve_left c]; rfl
    have hz : (b == -1) = false := by simpa using c
    rw [hl]
    rw [hl] at HB
    clear hb h hl
    generalize xs.length = n at *
    generalize ts.length = k at *
    go_enter Tryz.func101, Tryz.ntmps101
    go_wp2
    go_ret
    refine ⟨_, _, rfl, is_one (by unfold wfi; omega) ?_, HB.out.alloc HB.out.size _⟩
    rw [show w.heap.size + 1 = (w.alloc _).heap.size from (World.size_alloc _ _).symm]
    exact (Blk.new _ _ _).cell 0
end Go.Proofs.YtngdgogjlpjjpaeGreat
namespace Go.Proofs.YtngdgogjlpjjpaeGreat
open Go.ChangeShapes Go.WideShapes Go.ChangeAt Go.RowKit Classical
set_option linter.unusedVariables false
set_option maxRecDepth 100000 in
set_option maxHeartbeats 64000000 in
theorem closedFnExactMachineOk : joinedFacts Tryz.pinned.checked.prog 8 Tryz.f8 Rows.fnExactMachineOkSpec Rows.fnExactMachineOkRow = true := by
  unfold joinedFacts
  simp only [Bool.and_eq_true]
  repeat' apply And.intro
  all_goals (as_aux_lemma => kernel_rfl)
theorem namedFnExactMachineOk : Tryz.pinned.checked.prog.funcNamed Rows.fnExactMachineOkRow.func = some 8 := by kernel_rfl
end Go.Proofs.YtngdgogjlpjjpaeGreat
