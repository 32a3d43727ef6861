import Derived.Test.YthnelonbpbhhbabWr10
namespace Go.Proofs.Ythnelonbpbhhbab
open Go.RowKit
set_option linter.unusedVariables false

set_option maxHeartbeats 1000000 in
theorem markByteS_zero (a : Option Addr) (cap k : Nat) (w : World) :
    Calls Try.prog 72 #[.slice a 0 cap, .int .i64 k] w fun e w' => e = .returned (.int .i64 k) ∧ w = w' := by
  go_enter Try.func72, Try.ntmps72
  go_wp2
  go_loop [1, 5] (fun x i => i = .int .i64 0 ∧ x = .int .i64 k) (fun _ _ => 0)
  case atStart => exact ⟨rfl, rfl⟩
  case round =>
    obtain ⟨rfl, rfl⟩ := hrel
    go_wp2
    go_ret
    exact ⟨rfl, rfl⟩

theorem markByteS_any (a : Option Addr) (n cap base : Nat) (zs : List Int) (k : Nat) (w : World) (h : OB w base (.slice a n cap) zs) (hn : n ≤ 2097152) (hk : k ≤ 4194304) :
    Calls Try.prog 72 #[.slice a n cap, .int .i64 k] w fun e w' => e = .returned (.int .i64 ((k + n : Nat) : Int)) ∧ OB w' base (.slice a n cap) (marks k n) ∧ Turn (fun j => (Value.slice a n cap).ownBlock = some j) w w' := by
  by_cases h0 : n = 0
  · subst h0
    refine (markByteS_zero a cap k w).mono fun e w' he => ?_
    obtain ⟨rfl, rfl⟩ := he
    have hz : zs = [] := List.eq_nil_of_length_eq_zero h.bs.1
    subst hz
    exact ⟨rfl, h, Turn.refl _ _⟩
  · obtain ⟨g, rfl⟩ : ∃ g, a = some ⟨g, 0, none⟩ := by
      obtain ⟨hl, ⟨h0', _⟩ | ⟨g, cap', cur, hv, _⟩⟩ := h.1
      · simp at h0'; exact absurd h0'.2.1 h0
      · simp at hv; exact ⟨g, hv.1⟩
    refine (markByteS_some g n cap base zs k w h hn hk).mono fun e w' he => ⟨he.1, he.2.1, he.2.2.mono ?_⟩
    intro j hj
    subst hj
    rfl

theorem marks_getD (k n m : Nat) (h : m < n) : (marks k n).getD m 0 = ((k + m : Nat) : Int) % 256 := by simp [marks, List.getD_eq_getElem?_getD, h]

set_option maxHeartbeats 1000000 in
theorem heldByteS_any (a : Option Addr) (n cap : Nat) (k : Nat) (w : World) (h : BS w a n cap (marks k n)) (hn : n ≤ 2097152) (hk : k ≤ 4194304) :
    Calls Try.prog 73 #[.slice a n cap, .int .i64 k] w fun e w' => e = .returned (.int .i64 ((k + n : Nat) : Int)) ∧ w = w' := by
  go_enter Try.func73, Try.ntmps73
  go_wp2
  go_loop [1, 5] (fun x i => ∃ m : Nat, m ≤ n ∧ i = .int .i64 m ∧ x = .int .i64 ((k + m : Nat) : Int)) (fun _ i => n - (intOf i).toNat)
  case atStart => exact ⟨0, Nat.zero_le _, rfl, rfl⟩
  case round =>
    obtain ⟨m, hm, rfl, rfl⟩ := hrel
    by_cases hlt : m < n
    · have hlt' : (m : Int) < (n : Int) := by omega
      obtain ⟨b, off, rfl⟩ := h.some (by omega)
      have hc := h.at m hlt
      rw [marks_getD k n m hlt] at hc
      obtain ⟨K, hK⟩ : ∃ K : Int, K = ((k + m : Nat) : Int) := ⟨_, rfl⟩
      have hK0 : 0 ≤ K := by omega
      have hK1 : K ≤ 8388608 := by omega
      have HK := hide (show K + 1 = ((k + (m + 1) : Nat) : Int) by omega)
      rw [← hK] at hc ⊢
      have hne : (K % 256 != K % 256) = false := by simp
      clear hK
      go_wp2
      go_round
      case rel => exact ⟨m + 1, by omega, by go_num, by rw [HK.out]⟩
      case measure => simp [intOf]; omega
    · have e : Hid (m = n) := by show m = n; omega
      go_wp2
      go_ret
      exact ⟨ret_int (by rw [e.out]), rfl⟩

/-- the blocks of three slices -/
def Blks (v1 v2 v3 : Value) (j : Nat) : Prop := v1.ownBlock = some j ∨ v2.ownBlock = some j ∨ v3.ownBlock = some j

set_option maxHeartbeats 1000000 in
theorem markMem_any (a1 a2 a3 : Option Addr) (n1 d1 n2 d2 n3 d3 base : Nat) (x1 x2 x3 : List Int) (w : World) (h : Own3 w base (.slice a1 n1 d1) (.slice a2 n2 d2) (.slice a3 n3 d3) x1 x2 x3) (hn : n1 + n2 + n3 ≤ 2097152) :
    Calls Try.prog 35 #[.agg #[.slice a1 n1 d1, .slice a2 n2 d2, .slice a3 n3 d3], .int .i64 1] w fun e w' => e = .returned (.int .i64 ((1 + n1 + n2 + n3 : Nat) : Int)) ∧ Own3 w' base (.slice a1 n1 d1) (.slice a2 n2 d2) (.slice a3 n3 d3) (marks 1 n1) (marks (1 + n1) n2) (marks (1 + n1 + n2) n3) ∧ Turn (Blks (.slice a1 n1 d1) (.slice a2 n2 d2) (.slice a3 n3 d3)) w w' := by
  have hlt : ∀ j, Blks (.slice a1 n1 d1) (.slice a2 n2 d2) (.slice a3 n3 d3) j → j < w.heap.size := by
    intro j hj
    rcases hj with e | e | e
    · exact (h.1.lt j e).2
    · exact (h.2.1.lt j e).2
    · exact (h.2.2.1.lt j e).2
  have kb := Blk.new w #[.slice a1 n1 d1, .slice a2 n2 d2, .slice a3 n3 d3] 38
  have h' := own3_alloc h (.cells #[.slice a1 n1 d1, .slice a2 n2 d2, .slice a3 n3 d3] 38)
  have T0 : Turn (Blks (.slice a1 n1 d1) (.slice a2 n2 d2) (.slice a3 n3 d3)) w (w.alloc (.cells #[.slice a1 n1 d1, .slice a2 n2 d2, .slice a3 n3 d3] 38)) := turn_alloc w _
  obtain ⟨o12, o13, o23⟩ := h.2.2.2
  go_enter Try.func35, Try.ntmps35
  go_wp2_with fail
  refine (markByteS_any a1 n1 d1 base x1 1 _ h'.1 (by omega) (by omega)).mono ?_
  rintro e w1 ⟨rfl, p1, t1⟩
  have kb1 := turn_blk t1 kb (fun e => by have := hlt _ (Or.inl e); omega)
  have p2 := turn_ob t1 h'.2.1 (fun k hk e => Nat.lt_irrefl _ (o12 k k e hk))
  have p3 := turn_ob t1 h'.2.2.1 (fun k hk e => Nat.lt_irrefl _ (o13 k k e hk))
  have T1 := T0.trans (t1.mono (fun k hk => Or.inl hk))
  clear t1 kb h'
  obtain ⟨q1, q2, q3, q4⟩ := kb1.three
  go_wp2_with fail
  refine (markByteS_any a2 n2 d2 base x2 (1 + n1) _ p2 (by omega) (by omega)).mono ?_
  rintro e w2 ⟨rfl, p2, t2⟩
  have kb2 := turn_blk t2 kb1 (fun e => by have := hlt _ (Or.inr (Or.inl e)); omega)
  have p1 := turn_ob t2 p1 (fun k hk e => Nat.lt_irrefl _ (o12 k k hk e))
  have p3 := turn_ob t2 p3 (fun k hk e => Nat.lt_irrefl _ (o23 k k e hk))
  have T2 := T1.trans (t2.mono (fun k hk => Or.inr (Or.inl hk)))
  clear t2 kb1 q1 q2 q3 q4
  obtain ⟨q1, q2, q3, q4⟩ := kb2.three
  go_wp2_with fail
  refine (markByteS_any a3 n3 d3 base x3 (1 + n1 + n2) _ p3 (by omega) (by omega)).mono ?_
  rintro e w3 ⟨rfl, p3, t3⟩
  have p1 := turn_ob t3 p1 (fun k hk e => Nat.lt_irrefl _ (o13 k k hk e))
  have p2 := turn_ob t3 p2 (fun k hk e => Nat.lt_irrefl _ (o23 k k hk e))
  have T3 := T2.trans (t3.mono (fun k hk => Or.inr (Or.inr hk)))
  go_wp2
  go_ret
  exact ⟨rfl, ⟨p1, p2, p3, o12, o13, o23⟩, T3⟩

set_option maxHeartbeats 1000000 in
theorem heldMem_any (a1 a2 a3 : Option Addr) (n1 d1 n2 d2 n3 d3 : Nat) (w : World) (h1 : BS w a1 n1 d1 (marks 1 n1)) (h2 : BS w a2 n2 d2 (marks (1 + n1) n2)) (h3 : BS w a3 n3 d3 (marks (1 + n1 + n2) n3)) (hn : n1 + n2 + n3 ≤ 2097152) :
    Calls Try.prog 36 #[.agg #[.slice a1 n1 d1, .slice a2 n2 d2, .slice a3 n3 d3], .int .i64 1] w fun e w' => e = .returned (.int .i64 ((1 + n1 + n2 + n3 : Nat) : Int)) ∧ Below w.heap.size w w' := by
  have hB0 : Below w.heap.size w (w.alloc (.cells #[.slice a1 n1 d1, .slice a2 n2 d2, .slice a3 n3 d3] 38)) := (Below.refl _ _).alloc (Nat.le_refl _) _
  go_enter Try.func36, Try.ntmps36
  go_wp2_with fail
  refine (heldByteS_any a1 n1 d1 1 _ (h1.below hB0) (by omega) (by omega)).mono ?_
  rintro e w1 ⟨rfl, rfl⟩
  have e1 : (0 : Int) ≤ ((1 + n1 : Nat) : Int) := by omega
  go_wp2_with fail
  refine (heldByteS_any a2 n2 d2 (1 + n1) _ (h2.below hB0) (by omega) (by omega)).mono ?_
  rintro e w1 ⟨rfl, rfl⟩
  have e2 : (0 : Int) ≤ ((1 + n1 + n2 : Nat) : Int) := by omega
  go_wp2_with fail
  refine (heldByteS_any a3 n3 d3 (1 + n1 + n2) _ (h3.below hB0) (by omega) (by omega)).mono ?_
  rintro e w1 ⟨rfl, rfl⟩
  have e3 : (0 : Int) ≤ ((1 + n1 + n2 + n3 : Nat) : Int) := by omega
  go_wp2
  go_ret
  exact ⟨rfl, hB0⟩
end Go.Proofs.Ythnelonbpbhhbab
