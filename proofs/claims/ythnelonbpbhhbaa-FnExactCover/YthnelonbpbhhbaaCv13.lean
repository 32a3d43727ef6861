import Derived.Test.YthnelonbpbhhbaaRw
namespace Go.Proofs.Ythnelonbpbhhbaa
open Go.RowKit
set_option linter.unusedVariables false

/-- the mark of a region: three numbers and three bits that follow k -/
def mk6 (k : Int) : Rg := (k, k + 1, k + 1 + 1, ((k + 1 + 1 + 1) % 3 == 0), ((k + 1 + 1 + 1 + 1) % 3 == 0), ((k + 1 + 1 + 1 + 1 + 1) % 3 == 0))
def marksR (k n : Nat) : List Rg := (List.range n).map fun i => mk6 ((k + 6 * i : Nat) : Int)
theorem marksR_len (k n : Nat) : (marksR k n).length = n := by simp [marksR]
theorem marksR_getD (k n m : Nat) (h : m < n) : (marksR k n).getD m z6 = mk6 ((k + 6 * m : Nat) : Int) := by simp [marksR, List.getD_eq_getElem?_getD, h]
def mixR (rs : List Rg) (k m : Nat) : List Rg := (List.range rs.length).map fun i => if i < m then mk6 ((k + 6 * i : Nat) : Int) else rs.getD i z6
theorem mixR_zero (rs : List Rg) (k : Nat) : mixR rs k 0 = rs := by
  apply List.ext_getElem
  · simp [mixR]
  · intro i h1 h2; simp [mixR, h2]
theorem mixR_all (rs : List Rg) (k : Nat) : mixR rs k rs.length = marksR k rs.length := by
  apply List.ext_getElem
  · simp [mixR, marksR]
  · intro i h1 h2
    simp [marksR] at h2
    simp [mixR, marksR, h2]
theorem mixR_len (rs : List Rg) (k m : Nat) : (mixR rs k m).length = rs.length := by simp [mixR]
theorem mixR_set (rs : List Rg) (k m : Nat) (h : m < rs.length) : (mixR rs k m).set m (mk6 ((k + 6 * m : Nat) : Int)) = mixR rs k (m + 1) := by
  apply List.ext_getElem
  · simp [mixR]
  · intro i h1 h2
    simp only [mixR, List.getElem_set, List.getElem_map, List.getElem_range]
    by_cases hik : m = i
    · subst hik; simp
    · by_cases h3 : i < m
      · simp [hik, h3, show i < m + 1 by omega]
      · simp [hik, h3, show ¬ i < m + 1 by omega]

set_option maxHeartbeats 1000000 in
theorem markRegionS_some (g n cap : Nat) (rs : List Rg) (k : Nat) (w : World) (hl : rs.length = n) (h : RowW w g rs) (hn : n ≤ 2097152) (hk : k ≤ 4194304) :
    Calls Try.prog 29 #[.slice (some ⟨g, 0, none⟩) n cap, .int .i64 k] w fun e w' => e = .returned (.int .i64 ((k + 6 * n : Nat) : Int)) ∧ RowW w' g (marksR k n) ∧ Turn (fun j => j = g) w w' := by
  go_enter Try.func29, Try.ntmps29
  go_wp2
  go_loopw [1, 5] (fun x i wr => ∃ m : Nat, m ≤ n ∧ i = .int .i64 m ∧ x = .int .i64 ((k + 6 * m : Nat) : Int) ∧ RowW wr g (mixR rs k m) ∧ Turn (fun j => j = g) w wr) (fun _ i _ => n - (intOf i).toNat)
  case atStart => exact ⟨0, Nat.zero_le _, rfl, rfl, by rw [mixR_zero]; exact h, Turn.refl _ _⟩
  case round =>
    obtain ⟨m, hm, rfl, rfl, hO, hT⟩ := hrel
    by_cases hlt : m < n
    · have hlt' : (m : Int) < (n : Int) := by omega
      obtain ⟨p1, p2, p3, p4, p5, p6⟩ := hO.2 m (by rw [mixR_len]; omega)
      have hf := hO.frozen
      have hset := hO.set m (by rw [mixR_len]; omega) (mk6 ((k + 6 * m : Nat) : Int))
      rw [mixR_set rs k m (by omega)] at hset
      have hT2 := hT.trans (set6_turn wr g (m * 6) (mk6 ((k + 6 * m : Nat) : Int)))
      have HO := hide hset
      have HT := hide hT2
      clear hset hT2 hO hT
      obtain ⟨K, hK⟩ : ∃ K : Int, K = ((k + 6 * m : Nat) : Int) := ⟨_, rfl⟩
      have hK0 : 0 ≤ K := by omega
      have hK1 : K ≤ 33554432 := by omega
      have HK := hide (show K + 1 + 1 + 1 + 1 + 1 + 1 = ((k + 6 * (m + 1) : Nat) : Int) by omega)
      rw [← hK] at HO HT ⊢
      clear hK
      go_wp2
      go_roundw
      case rel => exact ⟨m + 1, by omega, by go_num, by rw [HK.out], HO.out, HT.out⟩
      case measure => simp [intOf]; omega
    · have e : Hid (m = n) := by show m = n; omega
      go_wp2
      go_ret
      exact ⟨ret_int (by rw [e.out]), by rw [e.out, ← hl, mixR_all] at hO; rw [hl] at hO; exact hO, hT⟩

set_option maxHeartbeats 1000000 in
theorem markRegionS_zero (a : Option Addr) (cap k : Nat) (w : World) :
    Calls Try.prog 29 #[.slice a 0 cap, .int .i64 k] w fun e w' => e = .returned (.int .i64 k) ∧ w = w' := by
  go_enter Try.func29, Try.ntmps29
  go_wp2
  go_loop [1, 5] (fun x i => i = .int .i64 0 ∧ x = .int .i64 k) (fun _ _ => 0)
  case atStart => exact ⟨rfl, rfl⟩
  case round =>
    obtain ⟨rfl, rfl⟩ := hrel
    go_wp2
    go_ret
    exact ⟨rfl, rfl⟩

theorem markRegionS_any (a : Option Addr) (n cap base : Nat) (rs : List Rg) (k : Nat) (w : World) (h : OR w base (.slice a n cap) rs) (hn : n ≤ 2097152) (hk : k ≤ 4194304) :
    Calls Try.prog 29 #[.slice a n cap, .int .i64 k] w fun e w' => e = .returned (.int .i64 ((k + 6 * n : Nat) : Int)) ∧ RS w' a n cap (marksR k n) ∧ Turn (fun j => base ≤ j ∧ (Value.slice a n cap).ownBlock = some j) w w' := by
  have hr := or_rs h
  have hmx : n ≤ cap := hr.2.2.2.2
  have hml : n ≤ maxLen := hr.2.1
  have hwf : ∀ g ∈ marksR k n, wfi g.1 ∧ wfi g.2.1 ∧ wfi g.2.2.1 := by
    intro g hg
    simp [marksR] at hg
    obtain ⟨i, hi, rfl⟩ := hg
    simp only [mk6, wfi]
    omega
  by_cases h0 : n = 0
  · subst h0
    refine (markRegionS_zero a cap k w).mono fun e w' he => ?_
    obtain ⟨rfl, rfl⟩ := he
    exact ⟨rfl, ⟨rfl, hml, hwf, fun h => absurd rfl h, hmx⟩, Turn.refl _ _⟩
  · obtain ⟨g, rfl, hg⟩ : ∃ g, a = some ⟨g, 0, none⟩ ∧ base ≤ g := by
      obtain ⟨hl, ⟨h0', _⟩ | ⟨g, cap', cur, hv, hg, _⟩⟩ := h.1
      · simp at h0'; exact absurd h0'.2.1 h0
      · simp at hv; exact ⟨g, hv.1, hg⟩
    refine (markRegionS_some g n cap rs k w hr.1 (or_roww h h0) hn hk).mono fun e w' he => ⟨he.1, ⟨marksR_len k n, hml, hwf, fun _ => ⟨g, 0, rfl, fun i hi => ?_⟩, hmx⟩, he.2.2.mono ?_⟩
    · rw [Nat.zero_add]; exact he.2.1.2 i (by rw [marksR_len]; exact hi)
    · intro j hj
      subst hj
      exact ⟨hg, rfl⟩
end Go.Proofs.Ythnelonbpbhhbaa
