import Derived.Test.YthnelonbpbhhbabCv11
namespace Go.Proofs.Ythnelonbpbhhbab
open Go.RowKit
set_option linter.unusedVariables false
/-- the best region so far, as cells -/
def bcells : St → Array Value
  | none => #[.int .i64 0, .int .i64 0, .int .i64 0, .bool false, .bool false, .bool false]
  | some (b, l, q) => #[.int .i64 b, .int .i64 l, .int .i64 (255 - (q : Int)), .bool false, .bool false, .bool false]
theorem bcells_six (s : St) : ∃ x y z, bcells s = #[.int .i64 x, .int .i64 y, .int .i64 z, .bool false, .bool false, .bool false] := by
  match s with
  | none => exact ⟨_, _, _, rfl⟩
  | some (b, l, q) => exact ⟨_, _, _, rfl⟩
theorem sCnt_le (a en : Int) (ha : 0 ≤ a) (hae : a < en) (hen : en ≤ 262144) (n : Nat) (hn : n ≤ 10) : sCnt (cvFold a en n) ≤ 262144 := by
  match h : cvFold a en n with
  | none => simp [sCnt]
  | some (b, l, q) =>
    obtain ⟨k1, k2, k3, k4⟩ := cvFold_gives a en ha hae hen n hn b l q h
    obtain ⟨c1, c2⟩ := qOf_cnt a en l k1 k2 ha hae hen
    rw [← k4] at c1
    simp only [sCnt]
    omega

set_option maxRecDepth 100000 in
set_option maxHeartbeats 2000000 in
theorem sCover_good (f s : Int) (w : World) (hf : 0 ≤ f) (hf32 : f % 32 = 0) (hs : 0 ≤ s) (hs32 : s % 32 = 0) (hfs : s ≤ 262144 - f) :
    Calls Try.prog 10 #[.int .i64 f, .int .i64 s] w (CvPost w true (cvAll f s)) := by
  obtain ⟨i0, hi, hz0, hz1, hz2⟩ := info_parts infoR
  obtain ⟨L, hL⟩ : ∃ L, L = cvAll f s := ⟨_, rfl⟩
  rw [← hL]
  unfold cvAll at hL
  have HL := hide hL
  clear hL
  have HO := hide (or_empty w w.heap.size (Nat.le_refl _))
  have HB := hide ((Below.refl w.heap.size w).alloc (Nat.le_refl _) (.cells #[] 30))
  have k1 : (f % 32 != 0) = false := by simpa using hf32
  have k2 : (s % 32 != 0) = false := by simpa using hs32
  have k3 : f + s ≤ 262144 := by omega
  have k4 : f ≤ 262144 := by omega
  have k5 : s ≤ 262144 := by omega
  go_enter Try.func10, Try.ntmps10
  go_wp2_with fail
  go_loopw [0, 1, 6] (fun x y r wr => ∃ (A : Option Addr) (m cap : Nat) (rs : List Rg) (n : Nat) (a z : Int), x = .int .i64 a ∧ y = .int .i64 z ∧ r = .slice A m cap ∧ f ≤ a ∧ a + z = f + s ∧ 0 ≤ z ∧ a % 32 = 0 ∧ z ≤ 32 * (n : Int) ∧ m + n ≤ 8192 ∧ OR wr w.heap.size (.slice A m cap) rs ∧ L = rs ++ cvList (f + s) n a ∧ Below w.heap.size w wr) (fun _ y _ _ => (intOf y).toNat)
  case atStart => exact ⟨_, 0, 0, [], (s / 32).toNat, f, s, rfl, rfl, rfl, by omega, by omega, by omega, hf32, by omega, by omega, HO.out, by rw [HL.out]; rfl, HB.out⟩
  case round =>
    obtain ⟨A, m, cap, rs, n, a, z, rfl, rfl, rfl, ha, haz, hz, ha32, hn, hmn, hO, hLL, hB⟩ := hrel
    obtain ⟨w9, hw9⟩ : ∃ w9, w9 = wr := ⟨_, rfl⟩
    subst hw9
    by_cases hlt : 0 < z
    · rw [← haz] at hLL
      have hlen := (or_rs hO).1
      obtain ⟨b, l, q, hF, hl, hl2, hq, hc1, hc2, hc3, hb, _⟩ := chosen a (a + z) (by omega) (by omega) (by omega) ha32 (by omega)
      obtain ⟨n, rfl⟩ : ∃ n', n = n' + 1 := ⟨n - 1, by omega⟩
      rw [cvList_step (a + z) n a b l q (by omega) hF] at hLL
      have hbw : 0 ≤ b ∧ b ≤ 262144 := by
        have := base_ok a l _ hl hl2 rfl (by omega) (by omega)
        have := pow_pos l.toNat
        rw [hb]
        unfold baseOf
        omega
      clear hb
      have HF := hide hF
      have HLL := hide hLL
      have HO1 := hide hO
      have HB1 := hide hB
      have HLEN0 := hide hlen
      have HAZ := hide haz
      have hsz := hB.size
      have KZ := hide (Blk.new w9 #[.int .i64 0, .int .i64 0, .int .i64 0, .bool false, .bool false, .bool false] 30)
      clear hLL hO hB hF hlen HO HB
      go_wp2_with fail
      go_loopw [8, 9] (fun mo lg wq => ∃ (k : Nat), k ≤ 10 ∧ mo = .int .i64 (sCnt (cvFold a (a + z) k)) ∧ lg = .int .i64 (5 + (k : Int)) ∧ Blk wq w9.heap.size (bcells (cvFold a (a + z) k)) 30 ∧ Below w9.heap.size w9 wq) (fun _ lg _ => 15 - (intOf lg).toNat)
      case atStart => exact ⟨0, by omega, by rw [cvFold_none]; rfl, rfl, by rw [cvFold_none]; exact KZ.out, (Below.refl _ _).alloc (Nat.le_refl _) _⟩
      case round =>
        obtain ⟨k, hk, rfl, rfl, kb, hBq⟩ := hrel
        have hc0 := sCnt_nonneg (cvFold a (a + z) k)
        have hc9 := sCnt_le a (a + z) (by omega) (by omega) (by omega) k hk
        by_cases hk10 : k < 10
        · have HBE := hide (l2Best_any a z (5 + (k : Int)) wr (by omega) (by omega) (by omega) hlt (by omega))
          have HSU := hide (cvFold_succ a (a + z) k)
          obtain ⟨x1, x2, x3, hx⟩ := bcells_six (cvFold a (a + z) k)
          rw [hx] at kb
          have hqc := qOf_cnt a (a + z) (5 + (k : Int)) (by omega) (by omega) (by omega) (by omega) (by omega)
          have hqn := cnt_nonneg (5 + (k : Int)) (qOf a (a + z) (5 + (k : Int)))
          generalize hst : cvFold a (a + z) k = st at *
          generalize hcq : cnt (5 + (k : Int)) (qOf a (a + z) (5 + (k : Int))) = c at *
          generalize hbb : baseOf a (5 + (k : Int)) = bb at *
          obtain ⟨sc, hsc⟩ : ∃ sc, sc = sCnt st := ⟨_, rfl⟩
          rw [← hsc] at hc0 hc9 ⊢
          have HSC := hide hsc
          have HCQ := hide hcq
          have HX := hide hx
          have hcle : c ≤ 262144 := by omega
          have KB := hide kb
          have HBQ := hide hBq
          have hszq := hBq.size
          have hltq := kb.lt
          clear hsc hcq hx hqc hst hbb kb hBq
          go_wp2_with fail
          refine HBE.out.mono ?_
          rintro e w3 ⟨o, rfl, ho, hb3⟩
          have HO3 := hide ho
          have kb3 := (KB.out.below hb3).alloc (.cells #[.int .i64 bb, .int .i64 (5 + (k : Int)), .int .i64 o, .bool false, .bool false, .bool false] 30)
          have hsz3 := hb3.size
          have HB3 := hide ((HBQ.out.trans (hb3.mono hszq)).alloc (by omega) (.cells #[.int .i64 bb, .int .i64 (5 + (k : Int)), .int .i64 o, .bool false, .bool false, .bool false] 30))
          have KB3 := hide kb3
          obtain ⟨q1, q2, q3, q4, q5, q6, q7⟩ := kb3.six'
          clear ho hb3 kb3
          by_cases hgt : sc < c
          · have HE := hide (show cvFold a (a + z) (k + 1) = some (bb, 5 + (k : Int), qOf a (a + z) (5 + (k : Int))) from by
              rw [HSU.out]
              unfold keep
              rw [if_pos (by rw [← HSC.out, HCQ.out]; exact hgt)])
            go_wp2_with fail
            refine ⟨⟨k + 1, by omega, by rw [HE.out]; exact congrArg (Value.int .i64) HCQ.out.symm, by go_num, ?_, be_below (Nat.le_refl _) HB3.out bb (5 + (k : Int)) o⟩, by simp [intOf]; omega⟩
            rw [HE.out]
            have e2 : bcells (some (bb, 5 + (k : Int), qOf a (a + z) (5 + (k : Int)))) = #[.int .i64 bb, .int .i64 (5 + (k : Int)), .int .i64 o, .bool false, .bool false, .bool false] := by
              simp only [bcells]
              rw [HO3.out (by omega)]
            rw [e2]
            exact Blk.set (Blk.set (Blk.set (Blk.set (Blk.set (Blk.set KB3.out 0 _) 1 _) 2 _) 3 _) 4 _) 5 _
          · have HE := hide (show cvFold a (a + z) (k + 1) = st from by
              rw [HSU.out]
              unfold keep
              rw [if_neg (by rw [← HSC.out, HCQ.out]; exact hgt)])
            go_wp2_with fail
            exact ⟨⟨k + 1, by omega, by rw [HE.out, HSC.out], by go_num, by rw [HE.out, HX.out]; exact KB3.out, HB3.out⟩, by simp [intOf]; omega⟩
        · have hk' : k = 10 := by omega
          subst hk'
          rw [HF.out] at kb hc0 hc9 ⊢
          obtain ⟨o, ho⟩ : ∃ o, o = 255 - (q : Int) := ⟨_, rfl⟩
          obtain ⟨c, hc⟩ : ∃ c, c = cnt l q := ⟨_, rfl⟩
          have kb' : Blk wr w9.heap.size #[.int .i64 b, .int .i64 l, .int .i64 o, .bool false, .bool false, .bool false] 30 := by rw [ho]; exact kb
          have hsc : sCnt (some (b, l, q)) = c := hc.symm
          rw [hsc] at hc0 hc9 ⊢
          rw [← hc] at hc1 hc2 hc3 HLL
          rw [← ho] at HLL
          have hwf : wfi b ∧ wfi l ∧ wfi o := by unfold wfi; omega
          have HWF := hide hwf
          have hO2 := turn_or (S := fun _ => False) (turn_below hBq) HO1.out (fun _ _ => id)
          have HOWN := hide (hO2.1.alloc (.cells #[.int .i64 b, .int .i64 l, .int .i64 o, .bool false, .bool false, .bool false] 30))
          rw [HLEN0.out] at HOWN
          have HLEN := hide (show (cells6 (b, l, o, false, false, false)).length = 1 * 6 from rfl)
          have HNEWS := hide (news6 wr (b, l, o, false, false, false))
          have HONE := hide (one6 (b, l, o, false, false, false))
          have HRS := hide hO2.2
          have HLT := hide hO2.1.lt
          have hszq := hBq.size
          have HB3 := hide ((HB1.out.trans (hBq.mono hsz)).alloc (by omega) (.cells #[.int .i64 b, .int .i64 l, .int .i64 o, .bool false, .bool false, .bool false] 30))
          obtain ⟨q1, q2, q3, q4, q5, q6, q7⟩ := kb'.six'
          clear hO2 hBq kb kb' ho hc hsc hwf
          go_wp2_with (at_builtin; refine wpList_append_own _ rfl _ _ 25 rfl w.heap.size 30 i0 (.agg #[.int .i64 0, .int .i64 0, .int .i64 0, .bool false, .bool false, .bool false]) 6 32 Try.underlying25 hi hz0 hz1 hz2 rfl (by decide) (.slice A m cap) m (flat rs) rfl HOWN.out ⟨wr.heap.size, 0, none⟩ 1 1 (cells6 (b, l, o, false, false, false)) rfl HLEN.out HNEWS.out HONE.out (by unfold maxLen; omega) (by omega) (by simp; omega) ?_; intro v' w3 hown3 hgr3 _; obtain ⟨A', cap', he⟩ := or_shape hown3; subst he; have hO3 := or_more (W := wr) (v := .slice A m cap) (g := (b, l, o, false, false, false)) HRS.out HWF.out (by rw [HLEN0.out]; exact hown3); have t3 := grown_turn hgr3; have hfar : ∀ j, (Value.slice A m cap).ownBlock = some j → w.heap.size ≤ j := fun j hj => (HLT.out j hj).1; have HB4 := hide (below_turn HB3.out t3 hfar (by simp; omega)); have HO3 := hide hO3; clear hO3 t3 hfar hown3 hgr3)
          refine ⟨⟨A', m + 1, cap', rs ++ [(b, l, o, false, false, false)], n, a + c, z - c, by go_num, by go_num, rfl, by omega, by omega, by omega, by omega, by omega, by omega, HO3.out, by rw [HLL.out, HAZ.out]; simp, HB4.out⟩, ?_⟩
          simp [intOf]; omega
    · have hzz : z = 0 := by omega
      subst hzz
      have hLe : L = rs := by rw [hLL, cvList_end _ _ _ (by omega), List.append_nil]
      subst hLe
      have HO1 := hide hO
      have HB1 := hide hB
      clear hLL hO hB
      go_wp2_with fail
      go_ret2
      exact ⟨A, m, cap, rfl, HO1.out, HB1.out⟩

theorem sCover_any (f s : Int) (w : World) (h1 : -9223372036854775808 ≤ f ∧ f ≤ 9223372036854775807) (h2 : -9223372036854775808 ≤ s ∧ s ≤ 9223372036854775807) :
    Calls Try.prog 10 #[.int .i64 f, .int .i64 s] w (CvPost w (cvOk f s) (cvL f s)) := by
  unfold cvL
  cases e : cvOk f s
  · exact sCover_bad f s w h1 h2 e
  · unfold cvOk grn at e
    simp at e
    exact sCover_good f s w (by omega) (by omega) (by omega) (by omega) (by omega)
end Go.Proofs.Ythnelonbpbhhbab
