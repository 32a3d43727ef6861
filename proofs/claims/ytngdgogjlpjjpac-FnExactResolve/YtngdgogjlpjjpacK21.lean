import Derived.Test.YtngdgogjlpjjpacK20
namespace Go.Proofs.Ytngdgogjlpjjpac
open Go.RowKit
set_option linter.unusedVariables false
set_option linter.unusedSimpArgs false
set_option maxRecDepth 100000

set_option maxHeartbeats 2000000 in
theorem relocsOk_any (nm : ByteArray) (v1 v2 : Value) (da : Option Addr) (dn dc : Nat) (bss : Int) (ra : Option Addr) (rn rc : Nat) (rz : List Int) (v6 v7 : Value) (w : World) (hd : dn ≤ maxLen) (h : IS w ra rn rc rz) :
    Calls Try.prog 79 #[.agg #[.string nm, v1, v2, .slice da dn dc, .int .i64 bss, .slice ra rn rc, v6, v7]] w fun e w' => e = .returned (.bool (rlo rn rz dn)) ∧ Below w.heap.size w w' := by
  obtain ⟨W, hW⟩ : ∃ W, W = w.alloc (.cells #[.string nm, v1, v2, .slice da dn dc, .int .i64 bss, .slice ra rn rc, v6, v7] 56) := ⟨_, rfl⟩
  have hB0 : Below w.heap.size w W := by rw [hW]; exact (Below.refl _ _).alloc (Nat.le_refl _) _
  have kb : Blk W w.heap.size #[.string nm, v1, v2, .slice da dn dc, .int .i64 bss, .slice ra rn rc, v6, v7] 56 := by rw [hW]; exact Blk.new _ _ _
  obtain ⟨q0, q1, q2, q3, q4, q5, q6, q7⟩ := kb.eight
  obtain ⟨r, hr⟩ : ∃ r, r = rlo rn rz dn := ⟨_, rfl⟩
  rw [← hr]
  unfold rlo at hr
  have h0 := h.below hB0
  have hm1 := h.2.1
  unfold maxLen at hm1 hd
  have HW := hide hW
  clear hW
  by_cases c1 : 16 < rn
  · have HR := hide (show r = false by rw [hr, decide_eq_false (by omega)]; rfl)
    clear hr
    have c1' : (16 : Int) < (rn : Int) := by omega
    go_enter Try.func79, Try.ntmps79
    go_wp2_with (rw [← HW.out])
    go_ret
    exact ⟨ret_bool HR.out.symm, hB0⟩
  · have c1' : ¬ (16 : Int) < (rn : Int) := by omega
    have HR := hide (show r = (List.range rn).all (rlk rz dn) by rw [hr, decide_eq_true (by omega)]; rfl)
    clear hr
    go_enter Try.func79, Try.ntmps79
    go_wp2_with (rw [← HW.out])
    go_loop [12] (fun i => ∃ k : Nat, k ≤ rn ∧ i = .int .i64 k ∧ Hid (∀ j, j < k → rlk rz dn j = true)) (fun i => rn - (intOf i).toNat)
    case atStart => exact ⟨0, Nat.zero_le _, rfl, hide (fun j hj => by omega)⟩
    case round =>
      obtain ⟨k, hk, rfl, HJ⟩ := hrel
      by_cases hlt : k < rn
      · have hlt' : (k : Int) < (rn : Int) := by omega
        obtain ⟨bb, off, rfl⟩ := h0.addr (by omega)
        have hck := h0.at k hlt
        have HZ := hide (rng_bad (rlk rz dn) rn k hlt)
        have HG := hide (show rlk rz dn k = true → ∀ j, j < k + 1 → rlk rz dn j = true from fun h j hj => by
          by_cases e : j = k
          · subst e; exact h
          · exact HJ.out j (by omega))
        have HK := hide (show ∀ b : Bool, (b = true ↔ (0 ≤ rz.getD k 0 ∧ rz.getD k 0 % 4 = 0 ∧ rz.getD k 0 ≤ (dn : Int) - 4 ∧ (k = 0 ∨ rz.getD (k - 1) 0 < rz.getD k 0))) → rlk rz dn k = b from fun b hb => by unfold rlk; rw [Bool.eq_iff_iff, hb]; simp)
        have hrg := h0.range k
        unfold wfi at hrg
        obtain ⟨g0, g1⟩ := hrg
        have ht4 := tmod4 (rz.getD k 0)
        have HU := hide (fun w => isUpTo_any (rz.getD k 0) ((dn : Int) - 4) w)
        by_cases k0 : k = 0
        · subst k0
          simp only [Nat.add_zero] at hck
          generalize rz.getD 0 0 = z at *
          by_cases d2 : z % 4 ≠ 0
          · rw [decide_eq_true d2] at ht4
            go_wp2
            go_ret
            exact ⟨ret_bool (by rw [HR.out]; exact (HZ.out (HK.out false (by simp; omega))).symm), hB0⟩
          · rw [decide_eq_false d2] at ht4
            by_cases d3 : 0 ≤ z ∧ z ≤ (dn : Int) - 4
            · rw [decide_eq_true d3] at HU
              go_wp2_with (go_at_call 78; refine (HU.out _).mono ?_; rintro e w1 ⟨rfl, rfl⟩)
              go_round
              case rel => exact ⟨1, by omega, by go_num, hide (HG.out (HK.out true (by simp; omega)))⟩
              case measure => simp [intOf]; omega
            · rw [decide_eq_false d3] at HU
              go_wp2_with (go_at_call 78; refine (HU.out _).mono ?_; rintro e w1 ⟨rfl, rfl⟩)
              go_ret
              exact ⟨ret_bool (by rw [HR.out]; exact (HZ.out (HK.out false (by simp; omega))).symm), hB0⟩
        · have hpk := h0.at (k - 1) (by omega)
          have hk0 : (0 : Int) < (k : Int) := by omega
          have hk1 : (0 : Int) ≤ (k : Int) - 1 := by omega
          have hk2 : (k : Int) - 1 < (rn : Int) := by omega
          generalize rz.getD (k - 1) 0 = y at *
          generalize rz.getD k 0 = z at *
          by_cases d2 : z % 4 ≠ 0
          · rw [decide_eq_true d2] at ht4
            go_wp2
            go_ret
            exact ⟨ret_bool (by rw [HR.out]; exact (HZ.out (HK.out false (by simp; omega))).symm), hB0⟩
          · rw [decide_eq_false d2] at ht4
            by_cases d3 : 0 ≤ z ∧ z ≤ (dn : Int) - 4
            · rw [decide_eq_true d3] at HU
              by_cases d4 : z ≤ y
              · go_wp2_with (go_at_call 78; refine (HU.out _).mono ?_; rintro e w1 ⟨rfl, rfl⟩)
                go_ret
                exact ⟨ret_bool (by rw [HR.out]; exact (HZ.out (HK.out false (by simp; omega))).symm), hB0⟩
              · go_wp2_with (go_at_call 78; refine (HU.out _).mono ?_; rintro e w1 ⟨rfl, rfl⟩)
                go_round
                case rel => exact ⟨k + 1, by omega, by go_num, hide (HG.out (HK.out true (by simp; omega)))⟩
                case measure => simp [intOf]; omega
            · rw [decide_eq_false d3] at HU
              go_wp2_with (go_at_call 78; refine (HU.out _).mono ?_; rintro e w1 ⟨rfl, rfl⟩)
              go_ret
              exact ⟨ret_bool (by rw [HR.out]; exact (HZ.out (HK.out false (by simp; omega))).symm), hB0⟩
      · have HE := hide (rng_good (rlk rz dn) rn (fun j hj => HJ.out j (by omega)))
        go_wp2
        go_ret
        exact ⟨ret_bool (by rw [HR.out]; exact HE.out.symm), hB0⟩
end Go.Proofs.Ytngdgogjlpjjpac
