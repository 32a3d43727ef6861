import Derived.Test.YtngdgogjlpjjpaeGreatGc00
namespace Go.Proofs.YtngdgogjlpjjpaeGreat
open Go.RowKit Classical
set_option linter.unusedVariables false
set_option linter.unusedSimpArgs false
set_option maxRecDepth 100000

set_option maxHeartbeats 4000000 in
theorem iFits_any (a : Option Addr) (n cap : Nat) (ms : List Md) (L : Lay) (a0 : Option Addr) (c0 : Nat) (xs : List PB) (a2 : Option Addr) (c2 : Nat) (a5 : Option Addr) (c5 : Nat) (ts : List TB) (w : World) (h : MSD w a n cap ms) (hL : LyT w L a0 c0 xs a2 c2 a5 c5 ts) :
    Calls Tryz.prog 14 #[.slice a n cap, .agg #[.slice a0 xs.length c0, .int .i64 L.stack, .slice a2 L.slots.length c2, .int .i64 L.flash, .int .i64 L.ram, .slice a5 ts.length c5]] w fun e w' => ∃ r : Bool, e = .returned (.bool r) ∧ (r = true ↔ FitP (pmS ms) L) ∧ Below w.heap.size w w' := by
  obtain ⟨V, hV⟩ : ∃ V, V = w.alloc (.cells #[.slice a0 xs.length c0, .int .i64 L.stack, .slice a2 L.slots.length c2, .int .i64 L.flash, .int .i64 L.ram, .slice a5 ts.length c5] 36) := ⟨_, rfl⟩
  have hB : Below w.heap.size w V := by rw [hV]; exact (Below.refl _ _).alloc (Nat.le_refl _) _
  have k0 : Blk V w.heap.size #[.slice a0 xs.length c0, .int .i64 L.stack, .slice a2 L.slots.length c2, .int .i64 L.flash, .int .i64 L.ram, .slice a5 ts.length c5] 36 := by rw [hV]; exact Blk.new w _ _
  have HBV := hide hB
  have HM := hide (h.below hB)
  have HL2 := hide (hL.below hB)
  have HV := hide hV
  have HK := hide k0
  have hn := h.s.1
  have hmx := h.s.2.1
  have hlx := hL.s.2.1
  unfold maxLen at hmx hlx
  have HKX := hide (show ∀ X, Below V.heap.size V X → X.cell? ⟨w.heap.size, 0, none⟩ = some (.slice a0 xs.length c0) ∧ X.cell? ⟨w.heap.size, 1, none⟩ = some (.int .i64 L.stack) ∧ X.cell? ⟨w.heap.size, 2, none⟩ = some (.slice a2 L.slots.length c2) ∧ X.cell? ⟨w.heap.size, 3, none⟩ = some (.int .i64 L.flash) ∧ X.cell? ⟨w.heap.size, 4, none⟩ = some (.int .i64 L.ram) ∧ X.cell? ⟨w.heap.size, 5, none⟩ = some (.slice a5 ts.length c5) from fun X hz => (HK.out.below hz).ly6)
  have HX := hide (show ∀ X, Below V.heap.size V X → Below w.heap.size w X from fun X hz => HBV.out.trans (hz.mono HBV.out.size))
  have HR := hide (show Calls Tryz.prog 56 #[.slice a n cap, .agg #[.slice a0 xs.length c0, .int .i64 L.stack, .slice a2 L.slots.length c2, .int .i64 L.flash, .int .i64 L.ram, .slice a5 ts.length c5]] V (fun e w' => e = .returned (.bool (decide (Lok (pmS ms) L))) ∧ Below V.heap.size V w') from layoutOk_any a n cap ms L a0 c0 xs a2 c2 a5 c5 ts V HM.out HL2.out)
  clear hV k0 h hL hB
  obtain ⟨z0, z1, z2, z3, z4, z5⟩ := HKX.out _ (Below.refl _ _)
  by_cases c1 : Lok (pmS ms) L
  · rw [decide_eq_true c1] at HR
    have HPF := hide (fun (X : World) (hz : Below V.heap.size V X) => plansFit_any a n cap ms L a0 c0 xs a2 c2 a5 c5 ts X (HM.out.below hz) (HL2.out.below hz) c1)
    clear c1
    go_enter Tryz.func14, Tryz.ntmps14
    go_wp2_with (rw [← HV.out])
    refine HR.out.mono ?_
    rintro e X1 ⟨rfl, hb1⟩
    have HB1 := hide hb1
    clear hb1 z0 z1 z2 z3 z4 z5
    obtain ⟨z0, z1, z2, z3, z4, z5⟩ := HKX.out _ HB1.out
    go_wp2_with fail
    refine (HPF.out _ HB1.out).mono ?_
    rintro e X2 ⟨r, rfl, hr, hb2⟩
    have HB2 := hide (And.intro hr (HB1.out.trans (hb2.mono HB1.out.size)))
    clear hr hb2
    go_wp2
    go_ret
    exact ⟨r, rfl, HB2.out.1, HX.out _ HB2.out.2⟩
  · rw [decide_eq_false c1] at HR
    have HC := hide c1
    clear c1
    go_enter Tryz.func14, Tryz.ntmps14
    go_wp2_with (rw [← HV.out])
    refine HR.out.mono ?_
    rintro e X1 ⟨rfl, hb1⟩
    have HB1 := hide hb1
    clear hb1
    go_wp2
    go_ret
    exact ⟨false, rfl, by simp [FitP, HC.out], HX.out _ HB1.out⟩
end Go.Proofs.YtngdgogjlpjjpaeGreat
