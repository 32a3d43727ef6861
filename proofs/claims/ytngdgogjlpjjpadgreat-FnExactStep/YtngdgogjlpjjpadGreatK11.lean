import Derived.Test.YtngdgogjlpjjpadGreatK10
namespace Go.Proofs.YtngdgogjlpjjpadGreat
open Go.RowKit
set_option linter.unusedVariables false

/-- WHAT A VALID REGION IS. -/
def rok (b l o : Int) : Bool :=
  decide (5 ≤ l ∧ l ≤ 14 ∧ 0 ≤ o ∧ o ≤ 255 ∧ (8 ≤ l ∨ o = 0) ∧ 0 ≤ b ∧ b ≤ 262144 - (2:Int)^l.toNat ∧ b % (2:Int)^l.toNat = 0)

set_option maxHeartbeats 1000000 in
theorem sRegionOk_any (b l o : Int) (r x y : Bool) (w : World) (hb : (Lit.int .i64 b).wf = true) :
    Calls Tryz.prog 162 #[.agg #[.int .i64 b, .int .i64 l, .int .i64 o, .bool r, .bool x, .bool y]] w fun e w' => e = .returned (.bool (rok b l o)) ∧ Below w.heap.size w w' := by
  by_cases h1 : l < 5
  · have hf : Hid (rok b l o = false) := by show _ = _; unfold rok; simp; omega
    go_enter Tryz.func162, Tryz.ntmps162
    go_wp2
    go_ret
    exact ⟨ret_bool hf.out.symm, (Below.refl _ _).alloc (Nat.le_refl _) _⟩
  · by_cases h2 : 14 < l
    · have hf : Hid (rok b l o = false) := by show _ = _; unfold rok; simp; omega
      go_enter Tryz.func162, Tryz.ntmps162
      go_wp2
      go_ret
      exact ⟨ret_bool hf.out.symm, (Below.refl _ _).alloc (Nat.le_refl _) _⟩
    · by_cases h3 : o < 0
      · have hf : Hid (rok b l o = false) := by show _ = _; unfold rok; simp; omega
        go_enter Tryz.func162, Tryz.ntmps162
        go_wp2
        go_ret
        exact ⟨ret_bool hf.out.symm, (Below.refl _ _).alloc (Nat.le_refl _) _⟩
      · by_cases h4 : 255 < o
        · have hf : Hid (rok b l o = false) := by show _ = _; unfold rok; simp; omega
          go_enter Tryz.func162, Tryz.ntmps162
          go_wp2
          go_ret
          exact ⟨ret_bool hf.out.symm, (Below.refl _ _).alloc (Nat.le_refl _) _⟩
        · by_cases h5 : l < 8 ∧ o ≠ 0
          · obtain ⟨h5a, h5b⟩ := h5
            have hf : Hid (rok b l o = false) := by show _ = _; unfold rok; simp; omega
            have h5c : (o != 0) = true := by simpa using h5b
            clear h5b
            go_enter Tryz.func162, Tryz.ntmps162
            go_wp2
            go_ret
            exact ⟨ret_bool hf.out.symm, (Below.refl _ _).alloc (Nat.le_refl _) _⟩
          · have hp := pow_lt l.toNat (by omega)
            have hp0 := pow_pos l.toNat
            have hf : Hid (rok b l o = decide (0 ≤ b ∧ b ≤ 262144 - (2:Int)^l.toNat ∧ b % (2:Int)^l.toNat = 0)) := by
              show _ = _; unfold rok; congr 1; apply propext; constructor
              · rintro ⟨_, _, _, _, _, h⟩; exact h
              · intro h; exact ⟨by omega, by omega, by omega, by omega, by omega, h⟩
            by_cases h8 : l < 8
            · have h0 : o = 0 := by omega
              subst h0
              clear h5 h3 h4
              go_enter Tryz.func162, Tryz.ntmps162
              go_wp2_with (go_at_call 167; refine (l2Power_any _ (by omega) (by omega) _).mono ?_; rintro e w' ⟨rfl, rfl⟩)
              all_goals
                go_ret
                refine ⟨ret_bool ?_, (Below.refl _ _).alloc (Nat.le_refl _) _⟩
                rw [hf.out, Bool.eq_iff_iff]
                simp
                try omega
            · clear h5
              go_enter Tryz.func162, Tryz.ntmps162
              go_wp2_with (go_at_call 167; refine (l2Power_any _ (by omega) (by omega) _).mono ?_; rintro e w' ⟨rfl, rfl⟩)
              all_goals
                go_ret
                refine ⟨ret_bool ?_, (Below.refl _ _).alloc (Nat.le_refl _) _⟩
                rw [hf.out, Bool.eq_iff_iff]
                simp
                try omega

set_option maxHeartbeats 1000000 in
theorem iRegionOk_any (b l o : Int) (r x y : Bool) (w : World) (hb : (Lit.int .i64 b).wf = true) :
    Calls Tryz.prog 180 #[.agg #[.int .i64 b, .int .i64 l, .int .i64 o, .bool r, .bool x, .bool y]] w fun e w' => e = .returned (.bool (rok b l o)) ∧ Below w.heap.size w w' := by
  by_cases h1 : l < 5
  · have hf : Hid (rok b l o = false) := by show _ = _; unfold rok; simp; omega
    go_enter Tryz.func180, Tryz.ntmps180
    go_wp2
    go_ret
    exact ⟨ret_bool hf.out.symm, (Below.refl _ _).alloc (Nat.le_refl _) _⟩
  · by_cases h2 : 14 < l
    · have hf : Hid (rok b l o = false) := by show _ = _; unfold rok; simp; omega
      go_enter Tryz.func180, Tryz.ntmps180
      go_wp2
      go_ret
      exact ⟨ret_bool hf.out.symm, (Below.refl _ _).alloc (Nat.le_refl _) _⟩
    · by_cases h3 : o < 0
      · have hf : Hid (rok b l o = false) := by show _ = _; unfold rok; simp; omega
        go_enter Tryz.func180, Tryz.ntmps180
        go_wp2
        go_ret
        exact ⟨ret_bool hf.out.symm, (Below.refl _ _).alloc (Nat.le_refl _) _⟩
      · by_cases h4 : 255 < o
        · have hf : Hid (rok b l o = false) := by show _ = _; unfold rok; simp; omega
          go_enter Tryz.func180, Tryz.ntmps180
          go_wp2
          go_ret
          exact ⟨ret_bool hf.out.symm, (Below.refl _ _).alloc (Nat.le_refl _) _⟩
        · by_cases h5 : l < 8 ∧ o ≠ 0
          · obtain ⟨h5a, h5b⟩ := h5
            have hf : Hid (rok b l o = false) := by show _ = _; unfold rok; simp; omega
            have h5c : (o != 0) = true := by simpa using h5b
            clear h5b
            go_enter Tryz.func180, Tryz.ntmps180
            go_wp2
            go_ret
            exact ⟨ret_bool hf.out.symm, (Below.refl _ _).alloc (Nat.le_refl _) _⟩
          · have hp := pow_lt l.toNat (by omega)
            have hp0 := pow_pos l.toNat
            have hf : Hid (rok b l o = decide (0 ≤ b ∧ b ≤ 262144 - (2:Int)^l.toNat ∧ b % (2:Int)^l.toNat = 0)) := by
              show _ = _; unfold rok; congr 1; apply propext; constructor
              · rintro ⟨_, _, _, _, _, h⟩; exact h
              · intro h; exact ⟨by omega, by omega, by omega, by omega, by omega, h⟩
            by_cases h8 : l < 8
            · have h0 : o = 0 := by omega
              subst h0
              clear h5 h3 h4
              go_enter Tryz.func180, Tryz.ntmps180
              go_wp2
              all_goals
                go_ret
                refine ⟨ret_bool ?_, (Below.refl _ _).alloc (Nat.le_refl _) _⟩
                rw [hf.out, Bool.eq_iff_iff]
                simp [*]
                try omega
            · clear h5
              by_cases ho : o = 0
              · subst ho
                clear h3 h4
                go_enter Tryz.func180, Tryz.ntmps180
                go_wp2
                all_goals
                  go_ret
                  refine ⟨ret_bool ?_, (Below.refl _ _).alloc (Nat.le_refl _) _⟩
                  rw [hf.out, Bool.eq_iff_iff]
                  simp [*]
                  try omega
              · have ho' : (o != 0) = true := by simpa using ho
                clear ho
                go_enter Tryz.func180, Tryz.ntmps180
                go_wp2
                all_goals
                  go_ret
                  refine ⟨ret_bool ?_, (Below.refl _ _).alloc (Nat.le_refl _) _⟩
                  rw [hf.out, Bool.eq_iff_iff]
                  simp [*]
                  try omega

set_option maxHeartbeats 400000 in
theorem toRegion_any (b l o : Int) (r x y : Bool) (w : World) :
    Calls Tryz.prog 92 #[.agg #[.int .i64 b, .int .i64 l, .int .i64 o, .bool r, .bool x, .bool y]] w fun e w' => e = .returned (.agg #[.int .i64 b, .int .i64 l, .int .i64 o, .bool r, .bool x, .bool y]) ∧ Below w.heap.size w w' := by
  go_enter Tryz.func92, Tryz.ntmps92
  go_wp2
  refine bodyPost_ret (v := .agg #[.int .i64 b, .int .i64 l, .int .i64 o, .bool r, .bool x, .bool y]) (by simp [results, Tryz.results92, go_sem]) rfl ⟨rfl, ?_⟩
  exact ((((Below.refl _ _).alloc (Nat.le_refl _) _).alloc (by simp) _).alloc (by simp; omega) _)

end Go.Proofs.YtngdgogjlpjjpadGreat
