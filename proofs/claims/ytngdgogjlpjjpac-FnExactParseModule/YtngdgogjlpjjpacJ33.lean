import Derived.Test.YtngdgogjlpjjpacJ11
import Derived.Test.YtngdgogjlpjjpacJ01
namespace Go.Proofs.Ytngdgogjlpjjpac
open Go.RowKit
set_option linter.unusedVariables false

/-- the marks: k, k + 1, .. as bytes, n of them -/
def marks (k n : Nat) : List Int := (List.range n).map fun i => ((k + i : Nat) : Int) % 256
theorem marks_len (k n : Nat) : (marks k n).length = n := by simp [marks]
def mixed (zs : List Int) (k m : Nat) : List Int := (List.range zs.length).map fun i => if i < m then ((k + i : Nat) : Int) % 256 else zs.getD i 0
theorem mixed_zero (zs : List Int) (k : Nat) : mixed zs k 0 = zs := by
  apply List.ext_getElem
  · simp [mixed]
  · intro i h1 h2; simp [mixed, h2]
theorem mixed_all (zs : List Int) (k : Nat) : mixed zs k zs.length = marks k zs.length := by
  apply List.ext_getElem
  · simp [mixed, marks]
  · intro i h1 h2
    simp [marks] at h2
    simp [mixed, marks, h2]
theorem mixed_len (zs : List Int) (k m : Nat) : (mixed zs k m).length = zs.length := by simp [mixed]
theorem mixed_set (zs : List Int) (k m : Nat) (h : m < zs.length) : (mixed zs k m).set m (((k + m : Nat) : Int) % 256) = mixed zs k (m + 1) := by
  apply List.ext_getElem
  · simp [mixed]
  · intro i h1 h2
    simp only [mixed, List.getElem_set, List.getElem_map, List.getElem_range]
    by_cases hik : m = i
    · subst hik; simp
    · by_cases h3 : i < m
      · simp [hik, h3, show i < m + 1 by omega]
      · simp [hik, h3, show ¬ i < m + 1 by omega]

set_option maxHeartbeats 1000000 in
theorem markByteS_some (g n cap base : Nat) (zs : List Int) (k : Nat) (w : World) (h : OB w base (.slice (some ⟨g, 0, none⟩) n cap) zs) (hn : n ≤ 2097152) (hk : k ≤ 4194304) :
    Calls Try.prog 35 #[.slice (some ⟨g, 0, none⟩) n cap, .int .i64 k] w fun e w' => e = .returned (.int .i64 ((k + n : Nat) : Int)) ∧ OB w' base (.slice (some ⟨g, 0, none⟩) n cap) (marks k n) ∧ Turn (fun j => j = g) w w' := by
  have hl := h.bs.1
  go_enter Try.func35, Try.ntmps35
  go_wp2
  go_loopw [1, 5] (fun x i wr => ∃ m : Nat, m ≤ n ∧ i = .int .i64 m ∧ x = .int .i64 ((k + m : Nat) : Int) ∧ OB wr base (.slice (some ⟨g, 0, none⟩) n cap) (mixed zs k m) ∧ Turn (fun j => j = g) w wr) (fun _ i _ => n - (intOf i).toNat)
  case atStart => exact ⟨0, Nat.zero_le _, rfl, rfl, by rw [mixed_zero]; exact h, Turn.refl _ _⟩
  case round =>
    obtain ⟨m, hm, rfl, rfl, hO, hT⟩ := hrel
    by_cases hlt : m < n
    · have hlt' : (m : Int) < (n : Int) := by omega
      obtain ⟨u, hu⟩ := (ob_room hO).cell m hlt
      have hf := (ob_room hO).frozen m
      have hset := ob_set hO m hlt (((k + m : Nat) : Int) % 256) (by omega)
      rw [mixed_set zs k m (by omega)] at hset
      have hT2 : Turn (fun j => j = g) w (wr.setCell ⟨g, m, none⟩ (.int .u8 (((k + m : Nat) : Int) % 256))) :=
        hT.trans ⟨rfl, rfl, rfl, by rw [size_setCell]; exact Nat.le_refl _, fun j hj hs => heap_setCell_other _ _ _ _ hs⟩
      have HO := hide hset
      have HT := hide hT2
      clear hset hT2 hO hT
      obtain ⟨K, hK⟩ : ∃ K : Int, K = ((k + m : Nat) : Int) := ⟨_, rfl⟩
      have hK0 : 0 ≤ K := by omega
      have hK1 : K ≤ 8388608 := by omega
      have HK := hide (show K + 1 = ((k + (m + 1) : Nat) : Int) by omega)
      rw [← hK] at HO HT ⊢
      clear hK
      go_wp2
      go_roundw
      case rel => exact ⟨m + 1, by omega, by go_num, by rw [HK.out], HO.out, HT.out⟩
      case measure => simp [intOf]; omega
    · have e : Hid (m = n) := by show m = n; omega
      go_wp2
      go_ret
      exact ⟨ret_int (by rw [e.out]), by rw [e.out, ← hl, mixed_all] at hO; rw [hl] at hO; exact hO, hT⟩
end Go.Proofs.Ytngdgogjlpjjpac

namespace Go.Proofs.Ytngdgogjlpjjpac
open Go.RowKit
set_option linter.unusedVariables false

set_option maxHeartbeats 1000000 in
theorem markByteS_zero (a : Option Addr) (cap k : Nat) (w : World) :
    Calls Try.prog 35 #[.slice a 0 cap, .int .i64 k] w fun e w' => e = .returned (.int .i64 k) ∧ w = w' := by
  go_enter Try.func35, Try.ntmps35
  go_wp2
  go_loop [1, 5] (fun x i => i = .int .i64 0 ∧ x = .int .i64 k) (fun _ _ => 0)
  case atStart => exact ⟨rfl, rfl⟩
  case round =>
    obtain ⟨rfl, rfl⟩ := hrel
    go_wp2
    go_ret
    exact ⟨rfl, rfl⟩

theorem markByteS_any (a : Option Addr) (n cap base : Nat) (zs : List Int) (k : Nat) (w : World) (h : OB w base (.slice a n cap) zs) (hn : n ≤ 2097152) (hk : k ≤ 4194304) :
    Calls Try.prog 35 #[.slice a n cap, .int .i64 k] w fun e w' => e = .returned (.int .i64 ((k + n : Nat) : Int)) ∧ OB w' base (.slice a n cap) (marks k n) ∧ Turn (fun j => (Value.slice a n cap).ownBlock = some j) w w' := by
  by_cases h0 : n = 0
  · subst h0
    refine (markByteS_zero a cap k w).mono fun e w' he => ?_
    obtain ⟨rfl, rfl⟩ := he
    have hz : zs = [] := List.eq_nil_of_length_eq_zero h.bs.1
    subst hz
    exact ⟨rfl, h, Turn.refl _ _⟩
  · obtain ⟨g, rfl⟩ : ∃ g, a = some ⟨g, 0, none⟩ := by
      obtain ⟨hl, ⟨h0', _⟩ | ⟨g, cap', cur, hv, _⟩⟩ := h.1
      · simp at h0'; exact absurd h0'.2.1 h0
      · simp at hv; exact ⟨g, hv.1⟩
    refine (markByteS_some g n cap base zs k w h hn hk).mono fun e w' he => ⟨he.1, he.2.1, he.2.2.mono ?_⟩
    intro j hj
    subst hj
    rfl

theorem marks_getD (k n m : Nat) (h : m < n) : (marks k n).getD m 0 = ((k + m : Nat) : Int) % 256 := by simp [marks, List.getD_eq_getElem?_getD, h]

set_option maxHeartbeats 1000000 in
theorem heldByteS_any (a : Option Addr) (n cap : Nat) (k : Nat) (w : World) (h : BS w a n cap (marks k n)) (hn : n ≤ 2097152) (hk : k ≤ 4194304) :
    Calls Try.prog 103 #[.slice a n cap, .int .i64 k] w fun e w' => e = .returned (.int .i64 ((k + n : Nat) : Int)) ∧ w = w' := by
  go_enter Try.func103, Try.ntmps103
  go_wp2
  go_loop [1, 5] (fun x i => ∃ m : Nat, m ≤ n ∧ i = .int .i64 m ∧ x = .int .i64 ((k + m : Nat) : Int)) (fun _ i => n - (intOf i).toNat)
  case atStart => exact ⟨0, Nat.zero_le _, rfl, rfl⟩
  case round =>
    obtain ⟨m, hm, rfl, rfl⟩ := hrel
    by_cases hlt : m < n
    · have hlt' : (m : Int) < (n : Int) := by omega
      obtain ⟨b, off, rfl⟩ := h.some (by omega)
      have hc := h.at m hlt
      rw [marks_getD k n m hlt] at hc
      obtain ⟨K, hK⟩ : ∃ K : Int, K = ((k + m : Nat) : Int) := ⟨_, rfl⟩
      have hK0 : 0 ≤ K := by omega
      have hK1 : K ≤ 8388608 := by omega
      have HK := hide (show K + 1 = ((k + (m + 1) : Nat) : Int) by omega)
      rw [← hK] at hc ⊢
      have hne : (K % 256 != K % 256) = false := by simp
      clear hK
      go_wp2
      go_round
      case rel => exact ⟨m + 1, by omega, by go_num, by rw [HK.out]⟩
      case measure => simp [intOf]; omega
    · have e : Hid (m = n) := by show m = n; omega
      go_wp2
      go_ret
      exact ⟨ret_int (by rw [e.out]), rfl⟩

/-- the blocks of three slices -/
def Blks (v1 v2 v3 : Value) (j : Nat) : Prop := v1.ownBlock = some j ∨ v2.ownBlock = some j ∨ v3.ownBlock = some j

end Go.Proofs.Ytngdgogjlpjjpac
