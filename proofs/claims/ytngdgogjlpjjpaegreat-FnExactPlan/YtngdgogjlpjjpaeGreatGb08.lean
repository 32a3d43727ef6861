import Derived.Test.YtngdgogjlpjjpaeGreatGb06
import Derived.Test.YtngdgogjlpjjpaeGreatGa29
namespace Go.Proofs.YtngdgogjlpjjpaeGreat
open Go.RowKit Classical
set_option linter.unusedVariables false
set_option linter.unusedSimpArgs false
set_option maxRecDepth 100000

/-- WHETHER THERE IS A PLAN, and its regions -/
def pnO (ps : List PMod) (L : Lay) (m b s : Int) : Bool := lokB ps L && decide (0 ≤ pcq ps m b) && decide (sOk L b s) && decide ((plR ps L m b s).length ≤ 8)
def pnV (ps : List PMod) (L : Lay) (m b s : Int) : List Rg := if pnO ps L m b s = true then plR ps L m b s else []
/-- WHAT Plan GIVES -/
def PnPost (w : World) (ps : List PMod) (L : Lay) (m b s : Int) (e : Ending) (w' : World) : Prop :=
  ∃ A k c, e = .returned (.tuple #[.slice A k c, .bool (pnO ps L m b s)]) ∧ ORg w' w.heap.size (.slice A k c) (pnV ps L m b s) ∧ Below w.heap.size w w'
theorem pn_no {w X : World} {ps : List PMod} {L : Lay} {m b s : Int} {A : Option Addr} {k c : Nat} (hB : Below w.heap.size w X) (ho : ORg X w.heap.size (.slice A k c) []) (h : ¬ (Lok ps L ∧ 0 ≤ pcq ps m b ∧ sOk L b s ∧ (plR ps L m b s).length ≤ 8)) : PnPost w ps L m b s (.returned (.tuple #[.slice A k c, .bool false])) X := by
  have e : pnO ps L m b s = false := by
    cases e : pnO ps L m b s
    · rfl
    · unfold pnO at e
      simp only [Bool.and_eq_true,decide_eq_true_eq,lokB_iff] at e
      exact absurd ⟨e.1.1.1, e.1.1.2, e.1.2, e.2⟩ h
  exact ⟨A, k, c, by rw [e], by unfold pnV; rw [e]; exact ho, hB⟩
theorem pn_ok {w X : World} {ps : List PMod} {L : Lay} {m b s : Int} {A : Option Addr} {k c : Nat} (hB : Below w.heap.size w X) (ho : ORg X w.heap.size (.slice A k c) (plR ps L m b s)) (h1 : Lok ps L) (h2 : 0 ≤ pcq ps m b) (h3 : sOk L b s) (h4 : k ≤ 8) : PnPost w ps L m b s (.returned (.tuple #[.slice A k c, .bool true])) X := by
  have h5 : (plR ps L m b s).length ≤ 8 := by rw [(or_rs ho).1]; exact h4
  have e : pnO ps L m b s = true := by
    unfold pnO
    simp only [Bool.and_eq_true,decide_eq_true_eq,lokB_iff]
    exact ⟨⟨⟨h1, h2⟩, h3⟩, h5⟩
  exact ⟨A, k, c, by rw [e], by unfold pnV; rw [e]; exact ho, hB⟩
set_option maxHeartbeats 4000000 in
theorem sPlan_any (a : Option Addr) (n cap : Nat) (ms : List Md) (L : Lay) (a0 : Option Addr) (c0 : Nat) (xs : List PB) (a2 : Option Addr) (c2 : Nat) (a5 : Option Addr) (c5 : Nat) (ts : List TB) (m b at' s : Int) (w : World) (h : MSD w a n cap ms) (hL : LyT w L a0 c0 xs a2 c2 a5 c5 ts) :
    Calls Tryz.prog 29 #[.slice a n cap, .agg #[.slice a0 xs.length c0, .int .i64 L.stack, .slice a2 L.slots.length c2, .int .i64 L.flash, .int .i64 L.ram, .slice a5 ts.length c5], .agg #[.int .i64 m, .int .i64 b, .int .i64 at'], .int .i64 s] w (PnPost w (pmS ms) L m b s) := by
  obtain ⟨W, hW⟩ : ∃ W, W = (w.alloc (.cells #[.slice a0 xs.length c0, .int .i64 L.stack, .slice a2 L.slots.length c2, .int .i64 L.flash, .int .i64 L.ram, .slice a5 ts.length c5] 36)).alloc (.cells #[.int .i64 m, .int .i64 b, .int .i64 at'] 71) := ⟨_, rfl⟩
  have hB : Below w.heap.size w W := by rw [hW]; exact ((Below.refl _ _).alloc (Nat.le_refl _) _).alloc (by simp) _
  have k0 : Blk W w.heap.size #[.slice a0 xs.length c0, .int .i64 L.stack, .slice a2 L.slots.length c2, .int .i64 L.flash, .int .i64 L.ram, .slice a5 ts.length c5] 36 := by rw [hW]; exact (Blk.new w _ _).alloc _
  have k1 : Blk W (w.heap.size + 1) #[.int .i64 m, .int .i64 b, .int .i64 at'] 71 := by rw [hW]; have := Blk.new (w.alloc (.cells #[.slice a0 xs.length c0, .int .i64 L.stack, .slice a2 L.slots.length c2, .int .i64 L.flash, .int .i64 L.ram, .slice a5 ts.length c5] 36)) #[.int .i64 m, .int .i64 b, .int .i64 at'] 71; simpa using this
  obtain ⟨V, hV⟩ : ∃ V, V = W.alloc (.cells #[] 158) := ⟨_, rfl⟩
  have bV : Below W.heap.size W V := by rw [hV]; exact (Below.refl _ _).alloc (Nat.le_refl _) _
  have hBV := hB.trans (bV.mono hB.size)
  have HNIL := hide (show ORg V w.heap.size (.slice (some ⟨W.heap.size, 0, none⟩) 0 0) [] by rw [hV]; exact or_empty W w.heap.size hB.size)
  have HBV := hide hBV
  have HK0 := hide (And.intro (k0.below bV) (k1.below bV))
  have HM := hide (h.below hBV)
  have HL2 := hide (hL.below hBV)
  have HW := hide hW
  have HV := hide hV
  have HKX := hide (show ∀ X, Below V.heap.size V X → (X.cell? ⟨w.heap.size, 0, none⟩ = some (.slice a0 xs.length c0) ∧ X.cell? ⟨w.heap.size, 1, none⟩ = some (.int .i64 L.stack) ∧ X.cell? ⟨w.heap.size, 2, none⟩ = some (.slice a2 L.slots.length c2) ∧ X.cell? ⟨w.heap.size, 3, none⟩ = some (.int .i64 L.flash) ∧ X.cell? ⟨w.heap.size, 4, none⟩ = some (.int .i64 L.ram) ∧ X.cell? ⟨w.heap.size, 5, none⟩ = some (.slice a5 ts.length c5)) ∧ X.cell? ⟨w.heap.size + 1, 0, none⟩ = some (.int .i64 m) ∧ X.cell? ⟨w.heap.size + 1, 1, none⟩ = some (.int .i64 b) ∧ X.cell? ⟨w.heap.size + 1, 2, none⟩ = some (.int .i64 at') from fun X hz =>
    ⟨(HK0.out.1.below hz).ly6, (HK0.out.2.below hz).cell 0, (HK0.out.2.below hz).cell 1, (HK0.out.2.below hz).cell 2⟩)
  have HX := hide (show ∀ X, Below V.heap.size V X → ORg X w.heap.size (.slice (some ⟨W.heap.size, 0, none⟩) 0 0) [] ∧ Below w.heap.size w X from fun X hz => ⟨turn_or' (turn_below hz) HNIL.out (fun _ _ h => h), HBV.out.trans (hz.mono HBV.out.size)⟩)
  have HR := hide (show Calls Tryz.prog 50 #[.slice a n cap, .agg #[.slice a0 xs.length c0, .int .i64 L.stack, .slice a2 L.slots.length c2, .int .i64 L.flash, .int .i64 L.ram, .slice a5 ts.length c5]] V (fun e w' => e = .returned (.bool (decide (Lok (pmS ms) L))) ∧ Below V.heap.size V w') from l5Real_any a n cap ms L a0 c0 xs a2 c2 a5 c5 ts V HM.out HL2.out)
  have HT := hide (show ∀ X, Below V.heap.size V X → Calls Tryz.prog 98 #[.slice a n cap, .int .i64 m, .int .i64 b] X (fun e w' => e = .returned (.bool (decide (0 ≤ pcq (pmS ms) m b))) ∧ Below V.heap.size V w') from fun X hz => (l6There_any a n cap ms m b X (HM.out.below hz).s).mono fun e w' he => ⟨by rw [← pcm_pcq HM.out]; exact he.1, hz.trans (he.2.mono hz.size)⟩)
  have hsl := hL.s.2.1
  unfold maxLen at hsl
  have HSE := hide (show L.slots = [] ↔ L.slots.length = 0 from List.length_eq_zero_iff.symm)
  clear hW hV k0 k1 h hL hB bV hBV
  obtain ⟨⟨z4, z5, z6, z7, z8, z9⟩, z10, z11, z12⟩ := HKX.out _ (Below.refl _ _)
  by_cases c1 : Lok (pmS ms) L
  · rw [decide_eq_true c1] at HR
    by_cases c2' : 0 ≤ pcq (pmS ms) m b
    · rw [decide_eq_true c2'] at HT
      have HPL0 := hide (show (s = -1 ∨ (b ≠ -1 ∧ 0 ≤ s ∧ s < (L.slots.length : Int))) → ∀ X, Below V.heap.size V X → Calls Tryz.prog 51 #[.slice a n cap, .agg #[.slice a0 xs.length c0, .int .i64 L.stack, .slice a2 L.slots.length c2, .int .i64 L.flash, .int .i64 L.ram, .slice a5 ts.length c5], .agg #[.int .i64 m, .int .i64 b, .int .i64 at'], .int .i64 s] X (fun e w' => ∃ A k c, e = .returned (.slice A k c) ∧ ORg w' X.heap.size (.slice A k c) (plR (pmS ms) L m b s) ∧ Below X.heap.size X w') from fun hf X hz => l6Plan_any a n cap ms L a0 c0 xs a2 c2 a5 c5 ts m b at' s X (HM.out.below hz) (HL2.out.below hz) c1 c2' hf)
      by_cases c3 : sOk L b s
      · have HC := hide (And.intro c1 (And.intro c2' c3))
        have HPL := hide (HPL0.out c3.fit)
        have hc3 := c3
        unfold sOk at hc3
        clear c1 c2' c3 HPL0
        by_cases cb : b = -1
        · rw [if_pos (.inl cb)] at hc3
          have hb1 : (b == -1) = true := by simpa using cb
          have hs1 : (s != -1) = false := by simp [hc3]
          subst cb
          subst hc3
          go_enter Tryz.func29, Tryz.ntmps29
          go_wp2_with (first | rw [← HW.out] | rw [← HV.out])
          refine HR.out.mono ?_
          rintro e X1 ⟨rfl, hb1⟩
          have HB1 := hide hb1
          clear hb1 z4 z5 z6 z7 z8 z9 z10 z11 z12
          obtain ⟨⟨z4, z5, z6, z7, z8, z9⟩, z10, z11, z12⟩ := HKX.out _ HB1.out
          go_wp2_with fail
          refine (HT.out _ HB1.out).mono ?_
          rintro e X2 ⟨rfl, hb2⟩
          have HB2 := hide hb2
          clear hb2 z4 z5 z6 z7 z8 z9 z10 z11 z12
          obtain ⟨⟨z4, z5, z6, z7, z8, z9⟩, z10, z11, z12⟩ := HKX.out _ HB2.out
          go_wp2_with fail
          refine (HPL.out _ HB2.out).mono ?_
          rintro e X3 ⟨A, k, c, rfl, ho, hb3⟩
          have HB3 := hide hb3
          have HO := hide ho
          clear ho hb3 z4 z5 z6 z7 z8 z9 z10 z11 z12
          by_cases h8 : k ≤ 8
          · have h8' : (k : Int) ≤ 8 := by omega
            go_wp2
            go_ret2
            exact pn_ok ((HX.out _ HB2.out).2.trans (HB3.out.mono (HX.out _ HB2.out).2.size)) (org_mono HO.out (HX.out _ HB2.out).2.size) HC.out.1 HC.out.2.1 HC.out.2.2 h8
          · have h8' : (8 : Int) < (k : Int) := by omega
            have HQ := hide (HX.out _ (HB2.out.trans (HB3.out.mono HB2.out.size)))
            have HK := hide h8
            go_wp2
            go_ret2
            exact pn_no HQ.out.2 HQ.out.1 (fun h => HK.out (by have := (or_rs HO.out).1; omega))
        · have hb1 : (b == -1) = false := by simpa using cb
          by_cases cl : L.slots = []
          · rw [if_pos (.inr cl)] at hc3
            have hl : L.slots.length = 0 := HSE.out.1 cl
            rw [hl] at HR HPL z6 HKX HW ⊢
            subst hc3
            clear cl
            go_enter Tryz.func29, Tryz.ntmps29
            go_wp2_with (first | rw [← HW.out] | rw [← HV.out])
            refine HR.out.mono ?_
            rintro e X1 ⟨rfl, hb1⟩
            have HB1 := hide hb1
            clear hb1 z4 z5 z6 z7 z8 z9 z10 z11 z12
            obtain ⟨⟨z4, z5, z6, z7, z8, z9⟩, z10, z11, z12⟩ := HKX.out _ HB1.out
            go_wp2_with fail
            refine (HT.out _ HB1.out).mono ?_
            rintro e X2 ⟨rfl, hb2⟩
            have HB2 := hide hb2
            clear hb2 z4 z5 z6 z7 z8 z9 z10 z11 z12
            obtain ⟨⟨z4, z5, z6, z7, z8, z9⟩, z10, z11, z12⟩ := HKX.out _ HB2.out
            go_wp2_with fail
            refine (HPL.out _ HB2.out).mono ?_
            rintro e X3 ⟨A, k, c, rfl, ho, hb3⟩
            have HB3 := hide hb3
            have HO := hide ho
            clear ho hb3 z4 z5 z6 z7 z8 z9 z10 z11 z12
            by_cases h8 : k ≤ 8
            · have h8' : (k : Int) ≤ 8 := by omega
              go_wp2
              go_ret2
              exact pn_ok ((HX.out _ HB2.out).2.trans (HB3.out.mono (HX.out _ HB2.out).2.size)) (org_mono HO.out (HX.out _ HB2.out).2.size) HC.out.1 HC.out.2.1 HC.out.2.2 h8
            · have h8' : (8 : Int) < (k : Int) := by omega
              have HQ := hide (HX.out _ (HB2.out.trans (HB3.out.mono HB2.out.size)))
              have HK := hide h8
              go_wp2
              go_ret2
              exact pn_no HQ.out.2 HQ.out.1 (fun h => HK.out (by have := (or_rs HO.out).1; omega))
          · rw [if_neg (fun h => h.elim cb cl)] at hc3
            have hl : ¬ L.slots.length = 0 := fun h => cl (HSE.out.2 h)
            have hl0 : ((L.slots.length : Int) == 0) = false := by simpa using hl
            have hs0 : ¬ s < 0 := by omega
            have hs0' : 0 ≤ s := hc3.1
            have hs1 : s < (L.slots.length : Int) := hc3.2
            clear hc3 cl hl
            generalize hlg : L.slots.length = l at *
            clear hlg
            go_enter Tryz.func29, Tryz.ntmps29
            go_wp2_with (first | rw [← HW.out] | rw [← HV.out])
            refine HR.out.mono ?_
            rintro e X1 ⟨rfl, hb1⟩
            have HB1 := hide hb1
            clear hb1 z4 z5 z6 z7 z8 z9 z10 z11 z12
            obtain ⟨⟨z4, z5, z6, z7, z8, z9⟩, z10, z11, z12⟩ := HKX.out _ HB1.out
            go_wp2_with fail
            refine (HT.out _ HB1.out).mono ?_
            rintro e X2 ⟨rfl, hb2⟩
            have HB2 := hide hb2
            clear hb2 z4 z5 z6 z7 z8 z9 z10 z11 z12
            obtain ⟨⟨z4, z5, z6, z7, z8, z9⟩, z10, z11, z12⟩ := HKX.out _ HB2.out
            go_wp2_with fail
            refine (HPL.out _ HB2.out).mono ?_
            rintro e X3 ⟨A, k, c, rfl, ho, hb3⟩
            have HB3 := hide hb3
            have HO := hide ho
            clear ho hb3 z4 z5 z6 z7 z8 z9 z10 z11 z12
            by_cases h8 : k ≤ 8
            · have h8' : (k : Int) ≤ 8 := by omega
              go_wp2
              go_ret2
              exact pn_ok ((HX.out _ HB2.out).2.trans (HB3.out.mono (HX.out _ HB2.out).2.size)) (org_mono HO.out (HX.out _ HB2.out).2.size) HC.out.1 HC.out.2.1 HC.out.2.2 h8
            · have h8' : (8 : Int) < (k : Int) := by omega
              have HQ := hide (HX.out _ (HB2.out.trans (HB3.out.mono HB2.out.size)))
              have HK := hide h8
              go_wp2
              go_ret2
              exact pn_no HQ.out.2 HQ.out.1 (fun h => HK.out (by have := (or_rs HO.out).1; omega))
      · have HNO := hide c3
        have hc3 := c3
        unfold sOk at hc3
        clear c1 c2' c3 HPL0
        by_cases cb : b = -1
        · rw [if_pos (.inl cb)] at hc3
          have hb1 : (b == -1) = true := by simpa using cb
          have hs1 : (s != -1) = true := by simpa using hc3
          have hs2 : (s == -1) = false := by simpa using hc3
          subst cb
          clear hc3
          go_enter Tryz.func29, Tryz.ntmps29
          go_wp2_with (first | rw [← HW.out] | rw [← HV.out])
          refine HR.out.mono ?_
          rintro e X1 ⟨rfl, hb1⟩
          have HB1 := hide hb1
          clear hb1 z4 z5 z6 z7 z8 z9 z10 z11 z12
          obtain ⟨⟨z4, z5, z6, z7, z8, z9⟩, z10, z11, z12⟩ := HKX.out _ HB1.out
          go_wp2_with fail
          refine (HT.out _ HB1.out).mono ?_
          rintro e X2 ⟨rfl, hb2⟩
          have HB2 := hide hb2
          clear hb2 z4 z5 z6 z7 z8 z9 z10 z11 z12
          obtain ⟨⟨z4, z5, z6, z7, z8, z9⟩, z10, z11, z12⟩ := HKX.out _ HB2.out
          go_wp2
          go_ret2
          exact pn_no (HX.out _ HB2.out).2 (HX.out _ HB2.out).1 (fun h => HNO.out h.2.2.1)
        · have hb1 : (b == -1) = false := by simpa using cb
          by_cases cl : L.slots = []
          · rw [if_pos (.inr cl)] at hc3
            have hs1 : (s != -1) = true := by simpa using hc3
            have hs2 : (s == -1) = false := by simpa using hc3
            have hl : L.slots.length = 0 := HSE.out.1 cl
            rw [hl] at HR z6 HKX HW ⊢
            clear cl hc3
            go_enter Tryz.func29, Tryz.ntmps29
            go_wp2_with (first | rw [← HW.out] | rw [← HV.out])
            refine HR.out.mono ?_
            rintro e X1 ⟨rfl, hb1⟩
            have HB1 := hide hb1
            clear hb1 z4 z5 z6 z7 z8 z9 z10 z11 z12
            obtain ⟨⟨z4, z5, z6, z7, z8, z9⟩, z10, z11, z12⟩ := HKX.out _ HB1.out
            go_wp2_with fail
            refine (HT.out _ HB1.out).mono ?_
            rintro e X2 ⟨rfl, hb2⟩
            have HB2 := hide hb2
            clear hb2 z4 z5 z6 z7 z8 z9 z10 z11 z12
            obtain ⟨⟨z4, z5, z6, z7, z8, z9⟩, z10, z11, z12⟩ := HKX.out _ HB2.out
            go_wp2
            go_ret2
            exact pn_no (HX.out _ HB2.out).2 (HX.out _ HB2.out).1 (fun h => HNO.out h.2.2.1)
          · rw [if_neg (fun h => h.elim cb cl)] at hc3
            have hl : ¬ L.slots.length = 0 := fun h => cl (HSE.out.2 h)
            have hl0 : ((L.slots.length : Int) == 0) = false := by simpa using hl
            by_cases hs0 : s < 0
            · clear hc3 cl hl
              generalize hlg : L.slots.length = l at *
              clear hlg
              go_enter Tryz.func29, Tryz.ntmps29
              go_wp2_with (first | rw [← HW.out] | rw [← HV.out])
              refine HR.out.mono ?_
              rintro e X1 ⟨rfl, hb1⟩
              have HB1 := hide hb1
              clear hb1 z4 z5 z6 z7 z8 z9 z10 z11 z12
              obtain ⟨⟨z4, z5, z6, z7, z8, z9⟩, z10, z11, z12⟩ := HKX.out _ HB1.out
              go_wp2_with fail
              refine (HT.out _ HB1.out).mono ?_
              rintro e X2 ⟨rfl, hb2⟩
              have HB2 := hide hb2
              clear hb2 z4 z5 z6 z7 z8 z9 z10 z11 z12
              obtain ⟨⟨z4, z5, z6, z7, z8, z9⟩, z10, z11, z12⟩ := HKX.out _ HB2.out
              go_wp2
              go_ret2
              exact pn_no (HX.out _ HB2.out).2 (HX.out _ HB2.out).1 (fun h => HNO.out h.2.2.1)
            · have hs0' : 0 ≤ s := by omega
              have hs1 : (L.slots.length : Int) ≤ s := by omega
              clear hc3 cl hl
              generalize hlg : L.slots.length = l at *
              clear hlg
              go_enter Tryz.func29, Tryz.ntmps29
              go_wp2_with (first | rw [← HW.out] | rw [← HV.out])
              refine HR.out.mono ?_
              rintro e X1 ⟨rfl, hb1⟩
              have HB1 := hide hb1
              clear hb1 z4 z5 z6 z7 z8 z9 z10 z11 z12
              obtain ⟨⟨z4, z5, z6, z7, z8, z9⟩, z10, z11, z12⟩ := HKX.out _ HB1.out
              go_wp2_with fail
              refine (HT.out _ HB1.out).mono ?_
              rintro e X2 ⟨rfl, hb2⟩
              have HB2 := hide hb2
              clear hb2 z4 z5 z6 z7 z8 z9 z10 z11 z12
              obtain ⟨⟨z4, z5, z6, z7, z8, z9⟩, z10, z11, z12⟩ := HKX.out _ HB2.out
              go_wp2
              go_ret2
              exact pn_no (HX.out _ HB2.out).2 (HX.out _ HB2.out).1 (fun h => HNO.out h.2.2.1)
    · rw [decide_eq_false c2'] at HT
      have HC := hide c2'
      clear c1 c2'
      go_enter Tryz.func29, Tryz.ntmps29
      go_wp2_with (first | rw [← HW.out] | rw [← HV.out])
      refine HR.out.mono ?_
      rintro e X1 ⟨rfl, hb1⟩
      have HB1 := hide hb1
      clear hb1 z4 z5 z6 z7 z8 z9 z10 z11 z12
      obtain ⟨⟨z4, z5, z6, z7, z8, z9⟩, z10, z11, z12⟩ := HKX.out _ HB1.out
      go_wp2_with fail
      refine (HT.out _ HB1.out).mono ?_
      rintro e X2 ⟨rfl, hb2⟩
      have HB2 := hide hb2
      clear hb2
      go_wp2
      go_ret2
      exact pn_no (HX.out _ HB2.out).2 (HX.out _ HB2.out).1 (fun h => absurd h.2.1 (by have := HC.out; omega))
  · rw [decide_eq_false c1] at HR
    have HC := hide c1
    clear c1
    go_enter Tryz.func29, Tryz.ntmps29
    go_wp2_with (first | rw [← HW.out] | rw [← HV.out])
    refine HR.out.mono ?_
    rintro e X1 ⟨rfl, hb1⟩
    have HB1 := hide hb1
    clear hb1
    go_wp2
    go_ret2
    exact pn_no (HX.out _ HB1.out).2 (HX.out _ HB1.out).1 (fun h => HC.out h.1)
end Go.Proofs.YtngdgogjlpjjpaeGreat

namespace Go.Proofs.YtngdgogjlpjjpaeGreat
open Go.RowKit Classical
set_option linter.unusedVariables false
set_option linter.unusedSimpArgs false
set_option maxRecDepth 100000

/-- the slots from which a piece can be executed -/
def slF (L : Lay) (b : Int) : List Int := if b = -1 ∨ L.slots = [] then [-1] else (List.range L.slots.length).map (fun i : Nat => (i : Int))
theorem is_one {w : World} {g : Nat} {v : Int} (hv : wfi v) (h : w.cell? ⟨g, 0, none⟩ = some (.int .i64 v)) : IS w (some ⟨g, 0, none⟩) 1 1 [v] := by
  refine ⟨rfl, by unfold maxLen; omega, fun z hz => ?_, fun _ => ⟨g, 0, rfl, fun i hi => ?_⟩, Nat.le_refl _⟩
  · simp at hz; rw [hz]; exact hv
  · obtain rfl : i = 0 := by omega
    simpa using h
set_option maxHeartbeats 1000000 in
theorem slotsFor_one (L : Lay) (a0 : Option Addr) (c0 : Nat) (xs : List PB) (a2 : Option Addr) (c2 : Nat) (a5 : Option Addr) (c5 : Nat) (ts : List TB) (b : Int) (w : World) (h : LyT w L a0 c0 xs a2 c2 a5 c5 ts) (hb : b = -1 ∨ L.slots = []) :
    Calls Tryz.prog 101 #[.agg #[.slice a0 xs.length c0, .int .i64 L.stack, .slice a2 L.slots.length c2, .int .i64 L.flash, .int .i64 L.ram, .slice a5 ts.length c5], .int .i64 b] w fun e w' => ∃ a c, e = .returned (.slice a (slF L b).length c) ∧ IS w' a (slF L b).length c (slF L b) ∧ Below w.heap.size w w' := by
  have HS := hide (show slF L b = [-1] by unfold slF; rw [if_pos hb])
  rw [HS.out]
  show Calls Tryz.prog 101 _ w fun e w' => ∃ a c, e = .returned (.slice a 1 c) ∧ IS w' a 1 c [-1] ∧ Below w.heap.size w w'
  have HB := hide (show Below w.heap.size w (w.alloc (.cells #[.slice a0 xs.length c0, .int .i64 L.stack, .slice a2 L.slots.length c2, .int .i64 L.flash, .int .i64 L.ram, .slice a5 ts.length c5] 36)) from (Below.refl _ _).alloc (Nat.le_refl _) _)
  clear HS
  by_cases c : b = -1
  · subst c
    clear hb h
    generalize xs.length = n at *
    generalize L.slots.length = l at *
    generalize ts.length = k at *
    go_enter Tryz.func101, Tryz.ntmps101
    go_wp2
    go_ret
    refine ⟨_, _, rfl, is_one (by unfold wfi; omega) ?_, HB.out.alloc HB.out.size _⟩
    rw [show w.heap.size + 1 = (w.alloc _).heap.size from (World.size_alloc _ _).symm]
    exact (Blk.new _ _ _).cell 0
  · have hl : L.slots.length = 0 := by rw [hb.resolve_left c]; rfl
    have hz : (b == -1) = false := by simpa using c
    rw [hl]
    rw [hl] at HB
    clear hb h hl
    generalize xs.length = n at *
    generalize ts.length = k at *
    go_enter Tryz.func101, Tryz.ntmps101
    go_wp2
    go_ret
    refine ⟨_, _, rfl, is_one (by unfold wfi; omega) ?_, HB.out.alloc HB.out.size _⟩
    rw [show w.heap.size + 1 = (w.alloc _).heap.size from (World.size_alloc _ _).symm]
    exact (Blk.new _ _ _).cell 0
end Go.Proofs.YtngdgogjlpjjpaeGreat

namespace Go.Proofs.YtngdgogjlpjjpaeGreat
open Go.RowKit Classical
set_option linter.unusedVariables false
set_option linter.unusedSimpArgs false
set_option maxRecDepth 100000

def upTo (n : Nat) : List Int := (List.range n).map (fun i : Nat => (i : Int))
theorem upTo_len (n : Nat) : (upTo n).length = n := by simp [upTo]
theorem upTo_at (n k : Nat) (h : k < n) : (upTo n).getD k 0 = (k : Int) := by simp [upTo, List.getD_eq_getElem?_getD, h]
set_option maxHeartbeats 1000000 in
theorem slotsFor_many (L : Lay) (a0 : Option Addr) (c0 : Nat) (xs : List PB) (a2 : Option Addr) (c2 : Nat) (a5 : Option Addr) (c5 : Nat) (ts : List TB) (b : Int) (l : Nat) (w : World) (hb : ¬ b = -1) (h0 : ¬ l = 0) (h1 : l ≤ 1048576) :
    Calls Tryz.prog 101 #[.agg #[.slice a0 xs.length c0, .int .i64 L.stack, .slice a2 l c2, .int .i64 L.flash, .int .i64 L.ram, .slice a5 ts.length c5], .int .i64 b] w fun e w' => ∃ g, e = .returned (.slice (some ⟨g, 0, none⟩) l l) ∧ RowI w' g (upTo l) ∧ Below w.heap.size w w' := by
  obtain ⟨i0, hi, hz0, hz1, hz2⟩ := info_parts infoI
  have hz : (b == -1) = false := by simpa using hb
  have hl0 : ((l : Int) == 0) = false := by simpa using h0
  obtain ⟨W, hW⟩ : ∃ W, W = w.alloc (.cells #[.slice a0 xs.length c0, .int .i64 L.stack, .slice a2 l c2, .int .i64 L.flash, .int .i64 L.ram, .slice a5 ts.length c5] 36) := ⟨_, rfl⟩
  have HBW := hide (show Below w.heap.size w W by rw [hW]; exact (Below.refl _ _).alloc (Nat.le_refl _) _)
  have k0 : Blk W w.heap.size #[.slice a0 xs.length c0, .int .i64 L.stack, .slice a2 l c2, .int .i64 L.flash, .int .i64 L.ram, .slice a5 ts.length c5] 36 := by rw [hW]; exact Blk.new w _ _
  have d2 : W.cell? ⟨w.heap.size, 2, none⟩ = some (.slice a2 l c2) := k0.cell 2
  have HW := hide hW
  clear hW k0
  generalize xs.length = n at *
  generalize ts.length = k at *
  go_enter Tryz.func101, Tryz.ntmps101
  go_wp2_with (first | rw [← HW.out] | (at_make; refine wpList_make_full _ rfl _ _ 24 rfl W.heap.size 3 i0 (.int .i64 0) 1 Tryz.underlying24 hi hz0 hz1 .i64 .i64 _ _ l rfl rfl rfl rfl (by rw [hz2]; omega) (by unfold maxLen; omega) (Nat.le_refl _) ?_; intro w1 hown hgr))
  have hrow := rowI_of_made hown
  have hbel := below_grown hgr
  clear hown hgr hi hz0 hz1 hz2 d2
  go_loopw [6, 22] (fun _ i wr => ∃ k : Nat, k ≤ l ∧ i = .int .i64 k ∧ RowI wr W.heap.size (mid (upTo l) k) ∧ Below W.heap.size W wr) (fun _ i _ => l - (intOf i).toNat)
  case atStart => exact ⟨0, Nat.zero_le _, rfl, by rw [mid_zero, upTo_len]; exact hrow, hbel⟩
  case round =>
    obtain ⟨k, hk, rfl, hR, hB⟩ := hrel
    clear hrow hbel
    by_cases hlt : k < l
    · have hlt' : (k : Int) < (l : Int) := by omega
      have hgk : wr.cell? ⟨W.heap.size, k, none⟩ = some (.int .i64 ((mid (upTo l) k).getD k 0)) := hR.cell k (by rw [mid_len, upTo_len]; omega)
      have hfk : wr.frozen? ⟨W.heap.size, k, none⟩ = false := hR.frozen k
      have R' := hR.set k ((upTo l).getD k 0)
      rw [mid_set (upTo l) k (by rw [upTo_len]; omega), upTo_at l k hlt] at R'
      have B' : Below W.heap.size W (wr.setCell ⟨W.heap.size, k, none⟩ (.int .i64 (k : Int))) := hB.setCell (Nat.le_refl _) _
      have HR := hide R'
      have HB := hide B'
      generalize (mid (upTo l) k).getD k 0 = z0 at *
      clear hR hB R' B'
      go_wp2
      go_roundw
      case rel => exact ⟨k + 1, by omega, by go_num, HR.out, HB.out⟩
      case measure => simp [intOf]; omega
    · have e : Hid (k = l) := by show k = l; omega
      have HX := hide (And.intro hR hB)
      clear hR hB
      go_wp2
      go_ret
      refine ⟨_, rfl, ?_, HBW.out.trans (HX.out.2.mono HBW.out.size)⟩
      have := HX.out.1
      have e2 : mid (upTo l) l = upTo l := by have := mid_all (upTo l); rwa [upTo_len] at this
      rw [e.out, e2] at this
      exact this
end Go.Proofs.YtngdgogjlpjjpaeGreat
