import Derived.Test.YtngdgogjlpjjpacK24
namespace Go.Proofs.Ytngdgogjlpjjpac
open Go.RowKit
set_option linter.unusedVariables false
set_option linter.unusedSimpArgs false
set_option maxRecDepth 100000

/-- A MODULE AS IT LIES IN A WORLD. -/
structure MD (w : World) (nm : ByteArray) (ta : Option Addr) (tn tc : Nat) (tz : List Int) (ba : Option Addr) (bn bc : Nat) (bl : List Bk) (da : Option Addr) (dn dc : Nat) (dz : List Int) (bss : Int) (ra : Option Addr) (rn rc : Nat) (rz : List Int) (ia : Option Addr) (im ic : Nat) (ss : List ByteArray) (ea : Option Addr) (en ec : Nat) (es : List Ex) : Prop where
  n : nm.size ≤ 1048576
  t : IS w ta tn tc tz
  b : BKS w ba bn bc bl
  d : BS w da dn dc dz
  s : wfi bss
  r : IS w ra rn rc rz
  i : SS w ia im ic ss
  e : ES w ea en ec es
theorem MD.below {w w' : World} {nm : ByteArray} {ta : Option Addr} {tn tc : Nat} {tz : List Int} {ba : Option Addr} {bn bc : Nat} {bl : List Bk} {da : Option Addr} {dn dc : Nat} {dz : List Int} {bss : Int} {ra : Option Addr} {rn rc : Nat} {rz : List Int} {ia : Option Addr} {im ic : Nat} {ss : List ByteArray} {ea : Option Addr} {en ec : Nat} {es : List Ex}
    (h : MD w nm ta tn tc tz ba bn bc bl da dn dc dz bss ra rn rc rz ia im ic ss ea en ec es) (hb : Below w.heap.size w w') : MD w' nm ta tn tc tz ba bn bc bl da dn dc dz bss ra rn rc rz ia im ic ss ea en ec es :=
  ⟨h.n, h.t.below hb, h.b.below hb, h.d.below hb, h.s, h.r.below hb, h.i.below hb, h.e.below hb⟩
/-- WHAT ModuleOk GIVES. -/
def mdo (nm : ByteArray) (tn : Nat) (tz : List Int) (bn : Nat) (bl : List Bk) (dn : Nat) (bss : Int) (rn : Nat) (rz : List Int) (im : Nat) (ss : List ByteArray) (en : Nat) (es : List Ex) : Int :=
  if nmo nm = false then 1 else if cdo tn tz bn bl = false then 2 else if 512 < dn ∨ bss < 0 ∨ 512 < bss then 3 else if rlo rn rz dn = false then 4 else if imo im ss = false then 5 else if exo tn bn bl en es = false then 6 else 0

set_option maxHeartbeats 4000000 in
theorem sModuleOk_any (nm : ByteArray) (ta : Option Addr) (tn tc : Nat) (tz : List Int) (ba : Option Addr) (bn bc : Nat) (bl : List Bk) (da : Option Addr) (dn dc : Nat) (dz : List Int) (bss : Int) (ra : Option Addr) (rn rc : Nat) (rz : List Int) (ia : Option Addr) (im ic : Nat) (ss : List ByteArray) (ea : Option Addr) (en ec : Nat) (es : List Ex) (w : World)
    (h : MD w nm ta tn tc tz ba bn bc bl da dn dc dz bss ra rn rc rz ia im ic ss ea en ec es) :
    Calls Try.prog 24 #[.agg #[.string nm, .slice ta tn tc, .slice ba bn bc, .slice da dn dc, .int .i64 bss, .slice ra rn rc, .slice ia im ic, .slice ea en ec]] w fun e w' => e = .returned (.int .i64 (mdo nm tn tz bn bl dn bss rn rz im ss en es)) ∧ Below w.heap.size w w' := by
  obtain ⟨W, hW⟩ : ∃ W, W = w.alloc (.cells #[.string nm, .slice ta tn tc, .slice ba bn bc, .slice da dn dc, .int .i64 bss, .slice ra rn rc, .slice ia im ic, .slice ea en ec] 56) := ⟨_, rfl⟩
  have hB0 : Below w.heap.size w W := by rw [hW]; exact (Below.refl _ _).alloc (Nat.le_refl _) _
  have kb : Blk W w.heap.size #[.string nm, .slice ta tn tc, .slice ba bn bc, .slice da dn dc, .int .i64 bss, .slice ra rn rc, .slice ia im ic, .slice ea en ec] 56 := by rw [hW]; exact Blk.new _ _ _
  obtain ⟨r, hr⟩ : ∃ r, r = mdo nm tn tz bn bl dn bss rn rz im ss en es := ⟨_, rfl⟩
  rw [← hr]
  unfold mdo at hr
  have HRR := hide hr
  clear hr
  have H0 := h.below hB0
  have hmd := h.d.2.1
  have hmi := h.i.2.1
  have htn := h.t.2.1
  have HN := hide (fun w => l4NameOk_any nm w h.n)
  have HCd := hide (fun w ht hb => l4CodeOk_any nm ta tn tc tz ba bn bc bl (.slice da dn dc) (.slice ra rn rc) (.slice ia im ic) (.slice ea en ec) bss w ht hb)
  have HRl := hide (fun w h => l4RelocsOk_any nm (.slice ta tn tc) (.slice ba bn bc) da dn dc bss ra rn rc rz (.slice ia im ic) (.slice ea en ec) w hmd h)
  have HEx := hide (fun w hb h => l4ExportsOk_any nm ta tn tc ba bn bc bl (.slice da dn dc) (.slice ra rn rc) (.slice ia im ic) bss ea en ec es w htn hb h)
  unfold maxLen at hmd hmi
  have hsz := h.i.size
  have HFU := hide (fun k w => l4FullOk_any (ss.getD k zS) w (hsz k))
  obtain ⟨s0, s1⟩ := h.s
  clear h hsz htn
  have HW := hide hW
  clear hW
  generalize nmo nm = a1 at *
  generalize cdo tn tz bn bl = a2 at *
  generalize rlo rn rz dn = a4 at *
  generalize exo tn bn bl en es = a6 at *
  obtain ⟨q0, q1, q2, q3, q4, q5, q6, q7⟩ := kb.eight
  go_enter Try.func24, Try.ntmps24
  go_wp2_with (first | (rw [← HW.out]) | (go_at_call 68; refine (HN.out _).mono ?_; rintro e w1 ⟨rfl, rfl⟩; cases a1))
  · have e := hide (show r = 1 from by rw [HRR.out]; simp)
    go_ret
    exact ⟨ret_int e.out.symm, hB0⟩
  · refine (HCd.out _ H0.t H0.b).mono ?_
    rintro e w2 ⟨rfl, hb2⟩
    have kb2 := kb.below hb2
    have H2 := H0.below hb2
    have hB2 := hB0.trans (hb2.mono hB0.size)
    clear hb2 kb H0 hB0 q0 q1 q2 q3 q4 q5 q6 q7
    obtain ⟨q0, q1, q2, q3, q4, q5, q6, q7⟩ := kb2.eight
    cases a2
    · have e := hide (show r = 2 from by rw [HRR.out]; simp)
      go_wp2
      go_ret
      exact ⟨ret_int e.out.symm, hB2⟩
    · by_cases c1 : 512 < dn
      · have e := hide (show r = 3 from by rw [HRR.out]; simp [c1])
        have c1' : (512 : Int) < (dn : Int) := by omega
        go_wp2
        go_ret
        exact ⟨ret_int e.out.symm, hB2⟩
      · have c1' : ¬ (512 : Int) < (dn : Int) := by omega
        by_cases c2 : bss < 0
        · have e := hide (show r = 3 from by rw [HRR.out]; simp [c2])
          go_wp2
          go_ret
          exact ⟨ret_int e.out.symm, hB2⟩
        · by_cases c3 : 512 < bss
          · have e := hide (show r = 3 from by rw [HRR.out]; simp [c3])
            go_wp2
            go_ret
            exact ⟨ret_int e.out.symm, hB2⟩
          · have HR2 := hide (show r = if a4 = false then 4 else if imo im ss = false then 5 else if a6 = false then 6 else 0 from by
              rw [HRR.out]
              simp only [Bool.true_eq_false, if_false, show ¬ (512 < dn ∨ bss < 0 ∨ 512 < bss) by omega])
            clear HRR
            go_wp2_with fail
            refine (HRl.out _ H2.r).mono ?_
            rintro e w3 ⟨rfl, hb3⟩
            have kb3 := kb2.below hb3
            have H3 := H2.below hb3
            have hB3 := hB2.trans (hb3.mono hB2.size)
            clear hb3 kb2 H2 hB2 q0 q1 q2 q3 q4 q5 q6 q7
            obtain ⟨q0, q1, q2, q3, q4, q5, q6, q7⟩ := kb3.eight
            cases a4
            · have e := hide (show r = 4 from by rw [HR2.out]; simp)
              go_wp2
              go_ret
              exact ⟨ret_int e.out.symm, hB3⟩
            · by_cases d1 : 16 < im
              · have e := hide (show r = 5 from by rw [HR2.out, show imo im ss = false by unfold imo; rw [decide_eq_false (by omega)]; rfl]; simp)
                have d1' : (16 : Int) < (im : Int) := by omega
                go_wp2
                go_ret
                exact ⟨ret_int e.out.symm, hB3⟩
              · have d1' : ¬ (16 : Int) < (im : Int) := by omega
                have HIM := hide (show imo im ss = (List.range im).all (fun k => full (ss.getD k zS)) from by unfold imo; rw [decide_eq_true (by omega)]; rfl)
                go_wp2_with fail
                go_loop [3] (fun i => ∃ k : Nat, k ≤ im ∧ i = .int .i64 k ∧ Hid (∀ j, j < k → full (ss.getD j zS) = true)) (fun i => im - (intOf i).toNat)
                case atStart => exact ⟨0, Nat.zero_le _, rfl, hide (fun j hj => by omega)⟩
                case round =>
                  obtain ⟨k, hk, rfl, HJ⟩ := hrel
                  by_cases hlt : k < im
                  · have hlt' : (k : Int) < (im : Int) := by omega
                    obtain ⟨bb, off, rfl⟩ := H3.i.addr (by omega)
                    have hck := H3.i.at k hlt
                    have HZ := hide (rng_bad (fun k => full (ss.getD k zS)) im k hlt)
                    have HG := hide (show full (ss.getD k zS) = true → ∀ j, j < k + 1 → full (ss.getD j zS) = true from fun h j hj => by
                      by_cases e : j = k
                      · subst e; exact h
                      · exact HJ.out j (by omega))
                    have HF := hide (HFU.out k)
                    generalize ss.getD k zS = s at *
                    cases hf : full s
                    · rw [hf] at HF
                      have e := hide (show r = 5 from by rw [HR2.out, HIM.out, HZ.out hf]; simp)
                      go_wp2_with (go_at_call 55; refine (HF.out _).mono ?_; rintro e w4 ⟨rfl, rfl⟩)
                      go_ret
                      exact ⟨ret_int e.out.symm, hB3⟩
                    · rw [hf] at HF
                      go_wp2_with (go_at_call 55; refine (HF.out _).mono ?_; rintro e w4 ⟨rfl, rfl⟩)
                      go_round
                      case rel => exact ⟨k + 1, by omega, by go_num, hide (HG.out hf)⟩
                      case measure => simp [intOf]; omega
                  · have HI := hide (show imo im ss = true from by rw [HIM.out]; exact rng_good (fun k => full (ss.getD k zS)) im (fun j hj => HJ.out j (by omega)))
                    go_wp2_with fail
                    refine (HEx.out _ H3.b H3.e).mono ?_
                    rintro e w5 ⟨rfl, hb5⟩
                    have hB5 := hB3.trans (hb5.mono hB3.size)
                    cases a6
                    · have e := hide (show r = 6 from by rw [HR2.out, HI.out]; simp)
                      go_wp2
                      go_ret
                      exact ⟨ret_int e.out.symm, hB5⟩
                    · have e := hide (show r = 0 from by rw [HR2.out, HI.out]; simp)
                      go_wp2
                      go_ret
                      exact ⟨ret_int e.out.symm, hB5⟩
end Go.Proofs.Ytngdgogjlpjjpac
