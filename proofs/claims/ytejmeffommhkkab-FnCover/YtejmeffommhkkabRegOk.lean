import Derived.Test.YtejmeffommhkkabRows
import Derived.WalkKit
import Derived.WalkSpells
import Derived.WalkLawsBesides
namespace Go.Proofs.Ytejmeffommhkkab
open Go.RowKit
set_option linter.unusedVariables false

theorem ret_int {k : IntKind} {a b : Int} (h : a = b) : Ending.returned (.int k a) = .returned (.int k b) := by rw [h]
theorem ret_bool {a b : Bool} (h : a = b) : Ending.returned (.bool a) = .returned (.bool b) := by rw [h]

theorem hide {p : Prop} (h : p) : Hid p := h
theorem unhide {p : Prop} (h : Hid p) : p := h

theorem pow_lt (n : Nat) (h : n ≤ 20) : (2:Int)^n ≤ 1048576 := by
  have h1 : (2:Nat)^n ≤ 2^20 := Nat.pow_le_pow_right (by omega) h
  have h2 : ((2^n : Nat) : Int) = (2:Int)^n := by simp
  have h3 : (2:Nat)^20 = 1048576 := rfl
  omega
theorem pow_pos (n : Nat) : 0 < (2:Int)^n := by
  have h1 : 0 < (2:Nat)^n := Nat.pow_pos (by omega)
  have h2 : ((2^n : Nat) : Int) = (2:Int)^n := by simp
  omega

set_option maxHeartbeats 400000 in
theorem l2Power_any (n : Int) (h0 : 0 ≤ n) (h : n ≤ 20) (w : World) :
    Calls Try.prog 43 #[.int .i64 n] w fun e w' => e = .returned (.int .i64 ((2:Int)^n.toNat)) ∧ w' = w := by
  go_enter Try.func43, Try.ntmps43
  go_wp2
  go_loop [3, 4] (fun v i => ∃ k : Nat, (k : Int) ≤ n ∧ i = .int .i64 k ∧ v = .int .i64 ((2:Int)^k)) (fun _ i => n.toNat - (intOf i).toNat)
  case atStart => exact ⟨0, by omega, rfl, rfl⟩
  case round =>
    obtain ⟨k, hk, rfl, rfl⟩ := hrel
    by_cases hlt : (k : Int) < n
    · have hp := pow_lt k (by omega)
      have hp0 := pow_pos k
      have hs : Hid ((2:Int)^(k+1) = (2:Int)^k * 2) := Int.pow_succ 2 k
      generalize (2:Int)^k = P at *
      go_wp2
      go_round
      case rel => exact ⟨k + 1, by omega, by go_num, by rw [hs.out]⟩
      case measure => simp [intOf]; omega
    · have e : Hid (n.toNat = k) := by show n.toNat = k; omega
      go_wp2
      go_ret
      exact ⟨ret_int (by rw [e.out]), rfl⟩

/-- WHAT A VALID REGION IS. -/
def rok (b l o : Int) : Bool :=
  decide (5 ≤ l ∧ l ≤ 14 ∧ 0 ≤ o ∧ o ≤ 255 ∧ (8 ≤ l ∨ o = 0) ∧ 0 ≤ b ∧ b ≤ 262144 - (2:Int)^l.toNat ∧ b % (2:Int)^l.toNat = 0)

set_option maxHeartbeats 1000000 in
theorem sRegionOk_any (b l o : Int) (r x y : Bool) (w : World) (hb : (Lit.int .i64 b).wf = true) :
    Calls Try.prog 31 #[.agg #[.int .i64 b, .int .i64 l, .int .i64 o, .bool r, .bool x, .bool y]] w fun e w' => e = .returned (.bool (rok b l o)) ∧ Below w.heap.size w w' := by
  by_cases h1 : l < 5
  · have hf : Hid (rok b l o = false) := by show _ = _; unfold rok; simp; omega
    go_enter Try.func31, Try.ntmps31
    go_wp2
    go_ret
    exact ⟨ret_bool hf.out.symm, (Below.refl _ _).alloc (Nat.le_refl _) _⟩
  · by_cases h2 : 14 < l
    · have hf : Hid (rok b l o = false) := by show _ = _; unfold rok; simp; omega
      go_enter Try.func31, Try.ntmps31
      go_wp2
      go_ret
      exact ⟨ret_bool hf.out.symm, (Below.refl _ _).alloc (Nat.le_refl _) _⟩
    · by_cases h3 : o < 0
      · have hf : Hid (rok b l o = false) := by show _ = _; unfold rok; simp; omega
        go_enter Try.func31, Try.ntmps31
        go_wp2
        go_ret
        exact ⟨ret_bool hf.out.symm, (Below.refl _ _).alloc (Nat.le_refl _) _⟩
      · by_cases h4 : 255 < o
        · have hf : Hid (rok b l o = false) := by show _ = _; unfold rok; simp; omega
          go_enter Try.func31, Try.ntmps31
          go_wp2
          go_ret
          exact ⟨ret_bool hf.out.symm, (Below.refl _ _).alloc (Nat.le_refl _) _⟩
        · by_cases h5 : l < 8 ∧ o ≠ 0
          · obtain ⟨h5a, h5b⟩ := h5
            have hf : Hid (rok b l o = false) := by show _ = _; unfold rok; simp; omega
            have h5c : (o != 0) = true := by simpa using h5b
            clear h5b
            go_enter Try.func31, Try.ntmps31
            go_wp2
            go_ret
            exact ⟨ret_bool hf.out.symm, (Below.refl _ _).alloc (Nat.le_refl _) _⟩
          · have hp := pow_lt l.toNat (by omega)
            have hp0 := pow_pos l.toNat
            have hf : Hid (rok b l o = decide (0 ≤ b ∧ b ≤ 262144 - (2:Int)^l.toNat ∧ b % (2:Int)^l.toNat = 0)) := by
              show _ = _; unfold rok; congr 1; apply propext; constructor
              · rintro ⟨_, _, _, _, _, h⟩; exact h
              · intro h; exact ⟨by omega, by omega, by omega, by omega, by omega, h⟩
            by_cases h8 : l < 8
            · have h0 : o = 0 := by omega
              subst h0
              clear h5 h3 h4
              go_enter Try.func31, Try.ntmps31
              go_wp2_with (go_at_call 43; refine (l2Power_any _ (by omega) (by omega) _).mono ?_; rintro e w' ⟨rfl, rfl⟩)
              all_goals
                go_ret
                refine ⟨ret_bool ?_, (Below.refl _ _).alloc (Nat.le_refl _) _⟩
                rw [hf.out, Bool.eq_iff_iff]
                simp
                try omega
            · clear h5
              go_enter Try.func31, Try.ntmps31
              go_wp2_with (go_at_call 43; refine (l2Power_any _ (by omega) (by omega) _).mono ?_; rintro e w' ⟨rfl, rfl⟩)
              all_goals
                go_ret
                refine ⟨ret_bool ?_, (Below.refl _ _).alloc (Nat.le_refl _) _⟩
                rw [hf.out, Bool.eq_iff_iff]
                simp
                try omega

set_option maxHeartbeats 1000000 in
theorem iRegionOk_any (b l o : Int) (r x y : Bool) (w : World) (hb : (Lit.int .i64 b).wf = true) :
    Calls Try.prog 12 #[.agg #[.int .i64 b, .int .i64 l, .int .i64 o, .bool r, .bool x, .bool y]] w fun e w' => e = .returned (.bool (rok b l o)) ∧ Below w.heap.size w w' := by
  by_cases h1 : l < 5
  · have hf : Hid (rok b l o = false) := by show _ = _; unfold rok; simp; omega
    go_enter Try.func12, Try.ntmps12
    go_wp2
    go_ret
    exact ⟨ret_bool hf.out.symm, (Below.refl _ _).alloc (Nat.le_refl _) _⟩
  · by_cases h2 : 14 < l
    · have hf : Hid (rok b l o = false) := by show _ = _; unfold rok; simp; omega
      go_enter Try.func12, Try.ntmps12
      go_wp2
      go_ret
      exact ⟨ret_bool hf.out.symm, (Below.refl _ _).alloc (Nat.le_refl _) _⟩
    · by_cases h3 : o < 0
      · have hf : Hid (rok b l o = false) := by show _ = _; unfold rok; simp; omega
        go_enter Try.func12, Try.ntmps12
        go_wp2
        go_ret
        exact ⟨ret_bool hf.out.symm, (Below.refl _ _).alloc (Nat.le_refl _) _⟩
      · by_cases h4 : 255 < o
        · have hf : Hid (rok b l o = false) := by show _ = _; unfold rok; simp; omega
          go_enter Try.func12, Try.ntmps12
          go_wp2
          go_ret
          exact ⟨ret_bool hf.out.symm, (Below.refl _ _).alloc (Nat.le_refl _) _⟩
        · by_cases h5 : l < 8 ∧ o ≠ 0
          · obtain ⟨h5a, h5b⟩ := h5
            have hf : Hid (rok b l o = false) := by show _ = _; unfold rok; simp; omega
            have h5c : (o != 0) = true := by simpa using h5b
            clear h5b
            go_enter Try.func12, Try.ntmps12
            go_wp2
            go_ret
            exact ⟨ret_bool hf.out.symm, (Below.refl _ _).alloc (Nat.le_refl _) _⟩
          · have hp := pow_lt l.toNat (by omega)
            have hp0 := pow_pos l.toNat
            have hf : Hid (rok b l o = decide (0 ≤ b ∧ b ≤ 262144 - (2:Int)^l.toNat ∧ b % (2:Int)^l.toNat = 0)) := by
              show _ = _; unfold rok; congr 1; apply propext; constructor
              · rintro ⟨_, _, _, _, _, h⟩; exact h
              · intro h; exact ⟨by omega, by omega, by omega, by omega, by omega, h⟩
            by_cases h8 : l < 8
            · have h0 : o = 0 := by omega
              subst h0
              clear h5 h3 h4
              go_enter Try.func12, Try.ntmps12
              go_wp2
              all_goals
                go_ret
                refine ⟨ret_bool ?_, (Below.refl _ _).alloc (Nat.le_refl _) _⟩
                rw [hf.out, Bool.eq_iff_iff]
                simp [*]
                try omega
            · clear h5
              by_cases ho : o = 0
              · subst ho
                clear h3 h4
                go_enter Try.func12, Try.ntmps12
                go_wp2
                all_goals
                  go_ret
                  refine ⟨ret_bool ?_, (Below.refl _ _).alloc (Nat.le_refl _) _⟩
                  rw [hf.out, Bool.eq_iff_iff]
                  simp [*]
                  try omega
              · have ho' : (o != 0) = true := by simpa using ho
                clear ho
                go_enter Try.func12, Try.ntmps12
                go_wp2
                all_goals
                  go_ret
                  refine ⟨ret_bool ?_, (Below.refl _ _).alloc (Nat.le_refl _) _⟩
                  rw [hf.out, Bool.eq_iff_iff]
                  simp [*]
                  try omega

theorem bcell {W w1 : World} (hb : Below W.heap.size W w1) : (∀ b o, b < W.heap.size → w1.cell? ⟨b, o, none⟩ = W.cell? ⟨b, o, none⟩) ∧ (∀ b o, b < W.heap.size → w1.frozen? ⟨b, o, none⟩ = W.frozen? ⟨b, o, none⟩) :=
  ⟨fun b o h => hb.cell (p := ⟨b, o, none⟩) h, fun b o h => hb.frozen (p := ⟨b, o, none⟩) h⟩

set_option maxHeartbeats 400000 in
theorem toRegion_any (b l o : Int) (r x y : Bool) (w : World) :
    Calls Try.prog 64 #[.agg #[.int .i64 b, .int .i64 l, .int .i64 o, .bool r, .bool x, .bool y]] w fun e w' => e = .returned (.agg #[.int .i64 b, .int .i64 l, .int .i64 o, .bool r, .bool x, .bool y]) ∧ Below w.heap.size w w' := by
  go_enter Try.func64, Try.ntmps64
  go_wp2
  refine bodyPost_ret (v := .agg #[.int .i64 b, .int .i64 l, .int .i64 o, .bool r, .bool x, .bool y]) (by simp [results, Try.results64, go_sem]) rfl ⟨rfl, ?_⟩
  exact ((((Below.refl _ _).alloc (Nat.le_refl _) _).alloc (by simp) _).alloc (by simp; omega) _)

end Go.Proofs.Ytejmeffommhkkab
