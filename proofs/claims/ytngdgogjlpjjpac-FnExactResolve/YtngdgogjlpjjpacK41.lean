import Derived.Test.YtngdgogjlpjjpacK25
import Derived.Test.YtngdgogjlpjjpacK40
import Derived.Test.YtngdgogjlpjjpacK21
namespace Go.Proofs.Ytngdgogjlpjjpac
open Go.RowKit
set_option linter.unusedVariables false
set_option linter.unusedSimpArgs false
set_option maxRecDepth 100000

set_option maxHeartbeats 4000000 in
theorem iModuleOk_any (nm : ByteArray) (ta : Option Addr) (tn tc : Nat) (tz : List Int) (ba : Option Addr) (bn bc : Nat) (bl : List Bk) (da : Option Addr) (dn dc : Nat) (dz : List Int) (bss : Int) (ra : Option Addr) (rn rc : Nat) (rz : List Int) (ia : Option Addr) (im ic : Nat) (ss : List ByteArray) (ea : Option Addr) (en ec : Nat) (es : List Ex) (w : World)
    (h : MD w nm ta tn tc tz ba bn bc bl da dn dc dz bss ra rn rc rz ia im ic ss ea en ec es) :
    Calls Try.prog 26 #[.agg #[.string nm, .slice ta tn tc, .slice ba bn bc, .slice da dn dc, .int .i64 bss, .slice ra rn rc, .slice ia im ic, .slice ea en ec]] w fun e w' => e = .returned (.int .i64 (mdo nm tn tz bn bl dn bss rn rz im ss en es)) ∧ Below w.heap.size w w' := by
  obtain ⟨W, hW⟩ : ∃ W, W = w.alloc (.cells #[.string nm, .slice ta tn tc, .slice ba bn bc, .slice da dn dc, .int .i64 bss, .slice ra rn rc, .slice ia im ic, .slice ea en ec] 56) := ⟨_, rfl⟩
  have hB0 : Below w.heap.size w W := by rw [hW]; exact (Below.refl _ _).alloc (Nat.le_refl _) _
  have kb : Blk W w.heap.size #[.string nm, .slice ta tn tc, .slice ba bn bc, .slice da dn dc, .int .i64 bss, .slice ra rn rc, .slice ia im ic, .slice ea en ec] 56 := by rw [hW]; exact Blk.new _ _ _
  obtain ⟨r, hr⟩ : ∃ r, r = mdo nm tn tz bn bl dn bss rn rz im ss en es := ⟨_, rfl⟩
  rw [← hr]
  unfold mdo at hr
  have HRR := hide hr
  clear hr
  have H0 := h.below hB0
  have hmd := h.d.2.1
  have htn := h.t.2.1
  have HN := hide (fun w => isName_any nm w h.n)
  have HCd := hide (fun w ht hb => codeOk_any nm ta tn tc tz ba bn bc bl (.slice da dn dc) (.slice ra rn rc) (.slice ia im ic) (.slice ea en ec) bss w ht hb)
  have HRl := hide (fun w h => relocsOk_any nm (.slice ta tn tc) (.slice ba bn bc) da dn dc bss ra rn rc rz (.slice ia im ic) (.slice ea en ec) w hmd h)
  have HIm := hide (fun w h => importsOk_any nm (.slice ta tn tc) (.slice ba bn bc) (.slice da dn dc) (.slice ra rn rc) (.slice ea en ec) bss ia im ic ss w h)
  have HEx := hide (fun w hb h => exportsOk_any nm ta tn tc ba bn bc bl (.slice da dn dc) (.slice ra rn rc) (.slice ia im ic) bss ea en ec es w htn hb h)
  have HU := hide (fun w => isUpTo_any bss 512 w)
  unfold maxLen at hmd
  obtain ⟨s0, s1⟩ := h.s
  clear h htn
  have HW := hide hW
  clear hW
  generalize nmo nm = a1 at *
  generalize cdo tn tz bn bl = a2 at *
  generalize rlo rn rz dn = a4 at *
  generalize imo im ss = a5 at *
  generalize exo tn bn bl en es = a6 at *
  obtain ⟨q0, q1, q2, q3, q4, q5, q6, q7⟩ := kb.eight
  go_enter Try.func26, Try.ntmps26
  go_wp2_with (first | (rw [← HW.out]) | (go_at_call 76; refine (HN.out _).mono ?_; rintro e w1 ⟨rfl, rfl⟩; cases a1))
  · have e := hide (show r = 1 from by rw [HRR.out]; simp)
    go_ret
    exact ⟨ret_int e.out.symm, hB0⟩
  · refine (HCd.out _ H0.t H0.b).mono ?_
    rintro e w2 ⟨rfl, hb2⟩
    have kb2 := kb.below hb2
    have H2 := H0.below hb2
    have hB2 := hB0.trans (hb2.mono hB0.size)
    clear hb2 kb H0 hB0 q0 q1 q2 q3 q4 q5 q6 q7
    obtain ⟨q0, q1, q2, q3, q4, q5, q6, q7⟩ := kb2.eight
    cases a2
    · have e := hide (show r = 2 from by rw [HRR.out]; simp)
      go_wp2
      go_ret
      exact ⟨ret_int e.out.symm, hB2⟩
    · by_cases c1 : 512 < dn
      · have e := hide (show r = 3 from by rw [HRR.out]; simp [c1])
        have c1' : (512 : Int) < (dn : Int) := by omega
        go_wp2
        go_ret
        exact ⟨ret_int e.out.symm, hB2⟩
      · have c1' : ¬ (512 : Int) < (dn : Int) := by omega
        by_cases c2 : 0 ≤ bss ∧ bss ≤ 512
        · have HR2 := hide (show r = if a4 = false then 4 else if a5 = false then 5 else if a6 = false then 6 else 0 from by
            rw [HRR.out]
            simp only [Bool.true_eq_false, if_false, show ¬ (512 < dn ∨ bss < 0 ∨ 512 < bss) by omega])
          clear HRR
          rw [decide_eq_true c2] at HU
          go_wp2_with (go_at_call 78; refine (HU.out _).mono ?_; rintro e w1 ⟨rfl, rfl⟩)
          refine (HRl.out _ H2.r).mono ?_
          rintro e w3 ⟨rfl, hb3⟩
          have kb3 := kb2.below hb3
          have H3 := H2.below hb3
          have hB3 := hB2.trans (hb3.mono hB2.size)
          clear hb3 kb2 H2 hB2 q0 q1 q2 q3 q4 q5 q6 q7
          obtain ⟨q0, q1, q2, q3, q4, q5, q6, q7⟩ := kb3.eight
          cases a4
          · have e := hide (show r = 4 from by rw [HR2.out]; simp)
            go_wp2
            go_ret
            exact ⟨ret_int e.out.symm, hB3⟩
          · go_wp2_with fail
            refine (HIm.out _ H3.i).mono ?_
            rintro e w4 ⟨rfl, hb4⟩
            have kb4 := kb3.below hb4
            have H4 := H3.below hb4
            have hB4 := hB3.trans (hb4.mono hB3.size)
            clear hb4 kb3 H3 hB3 q0 q1 q2 q3 q4 q5 q6 q7
            obtain ⟨q0, q1, q2, q3, q4, q5, q6, q7⟩ := kb4.eight
            cases a5
            · have e := hide (show r = 5 from by rw [HR2.out]; simp)
              go_wp2
              go_ret
              exact ⟨ret_int e.out.symm, hB4⟩
            · go_wp2_with fail
              refine (HEx.out _ H4.b H4.e).mono ?_
              rintro e w5 ⟨rfl, hb5⟩
              have hB5 := hB4.trans (hb5.mono hB4.size)
              clear hb5 H4 hB4 kb4
              cases a6
              · have e := hide (show r = 6 from by rw [HR2.out]; simp)
                go_wp2
                go_ret
                exact ⟨ret_int e.out.symm, hB5⟩
              · have e := hide (show r = 0 from by rw [HR2.out]; simp)
                go_wp2
                go_ret
                exact ⟨ret_int e.out.symm, hB5⟩
        · rw [decide_eq_false c2] at HU
          have e := hide (show r = 3 from by rw [HRR.out]; simp only [Bool.true_eq_false, if_false, show (512 < dn ∨ bss < 0 ∨ 512 < bss) by omega, if_true])
          go_wp2_with (go_at_call 78; refine (HU.out _).mono ?_; rintro e w1 ⟨rfl, rfl⟩)
          go_ret
          exact ⟨ret_int e.out.symm, hB2⟩
end Go.Proofs.Ytngdgogjlpjjpac
