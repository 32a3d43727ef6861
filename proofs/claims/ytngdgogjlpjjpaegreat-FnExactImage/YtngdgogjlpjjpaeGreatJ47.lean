import Derived.Test.YtngdgogjlpjjpaeGreatJ04
import Derived.Test.YtngdgogjlpjjpaeGreatJ01
import Derived.Test.YtngdgogjlpjjpaeGreatJ16
import Derived.Deep.RegionWith
import Derived.Test.YtngdgogjlpjjpaeGreatJ22
import Derived.Test.YtngdgogjlpjjpaeGreatJ36
import Derived.Test.YtngdgogjlpjjpaeGreatJ37
namespace Go.Proofs.YtngdgogjlpjjpaeGreat
open Go.RowKit
set_option linter.unusedVariables false

/-- the marks: k, k + 1, .. as bytes, n of them -/
def marks (k n : Nat) : List Int := (List.range n).map fun i => ((k + i : Nat) : Int) % 256
theorem marks_len (k n : Nat) : (marks k n).length = n := by simp [marks]
def mixed (zs : List Int) (k m : Nat) : List Int := (List.range zs.length).map fun i => if i < m then ((k + i : Nat) : Int) % 256 else zs.getD i 0
theorem mixed_zero (zs : List Int) (k : Nat) : mixed zs k 0 = zs := by
  apply List.ext_getElem
  · simp [mixed]
  · intro i h1 h2; simp [mixed, h2]
theorem mixed_all (zs : List Int) (k : Nat) : mixed zs k zs.length = marks k zs.length := by
  apply List.ext_getElem
  · simp [mixed, marks]
  · intro i h1 h2
    simp [marks] at h2
    simp [mixed, marks, h2]
theorem mixed_len (zs : List Int) (k m : Nat) : (mixed zs k m).length = zs.length := by simp [mixed]
theorem mixed_set (zs : List Int) (k m : Nat) (h : m < zs.length) : (mixed zs k m).set m (((k + m : Nat) : Int) % 256) = mixed zs k (m + 1) := by
  apply List.ext_getElem
  · simp [mixed]
  · intro i h1 h2
    simp only [mixed, List.getElem_set, List.getElem_map, List.getElem_range]
    by_cases hik : m = i
    · subst hik; simp
    · by_cases h3 : i < m
      · simp [hik, h3, show i < m + 1 by omega]
      · simp [hik, h3, show ¬ i < m + 1 by omega]

set_option maxHeartbeats 1000000 in
theorem markByteS_some (g n cap base : Nat) (zs : List Int) (k : Nat) (w : World) (h : OB w base (.slice (some ⟨g, 0, none⟩) n cap) zs) (hn : n ≤ 2097152) (hk : k ≤ 4194304) :
    Calls Tryz.prog 92 #[.slice (some ⟨g, 0, none⟩) n cap, .int .i64 k] w fun e w' => e = .returned (.int .i64 ((k + n : Nat) : Int)) ∧ OB w' base (.slice (some ⟨g, 0, none⟩) n cap) (marks k n) ∧ Turn (fun j => j = g) w w' := by
  have hl := h.bs.1
  go_enter Tryz.func92, Tryz.ntmps92
  go_wp2
  go_loopw [1, 5] (fun x i wr => ∃ m : Nat, m ≤ n ∧ i = .int .i64 m ∧ x = .int .i64 ((k + m : Nat) : Int) ∧ OB wr base (.slice (some ⟨g, 0, none⟩) n cap) (mixed zs k m) ∧ Turn (fun j => j = g) w wr) (fun _ i _ => n - (intOf i).toNat)
  case atStart => exact ⟨0, Nat.zero_le _, rfl, rfl, by rw [mixed_zero]; exact h, Turn.refl _ _⟩
  case round =>
    obtain ⟨m, hm, rfl, rfl, hO, hT⟩ := hrel
    by_cases hlt : m < n
    · have hlt' : (m : Int) < (n : Int) := by omega
      obtain ⟨u, hu⟩ := (ob_room hO).cell m hlt
      have hf := (ob_room hO).frozen m
      have hset := ob_set hO m hlt (((k + m : Nat) : Int) % 256) (by omega)
      rw [mixed_set zs k m (by omega)] at hset
      have hT2 : Turn (fun j => j = g) w (wr.setCell ⟨g, m, none⟩ (.int .u8 (((k + m : Nat) : Int) % 256))) :=
        hT.trans ⟨rfl, rfl, rfl, by rw [size_setCell]; exact Nat.le_refl _, fun j hj hs => heap_setCell_other _ _ _ _ hs⟩
      have HO := hide hset
      have HT := hide hT2
      clear hset hT2 hO hT
      obtain ⟨K, hK⟩ : ∃ K : Int, K = ((k + m : Nat) : Int) := ⟨_, rfl⟩
      have hK0 : 0 ≤ K := by omega
      have hK1 : K ≤ 8388608 := by omega
      have HK := hide (show K + 1 = ((k + (m + 1) : Nat) : Int) by omega)
      rw [← hK] at HO HT ⊢
      clear hK
      go_wp2
      go_roundw
      case rel => exact ⟨m + 1, by omega, by go_num, by rw [HK.out], HO.out, HT.out⟩
      case measure => simp [intOf]; omega
    · have e : Hid (m = n) := by show m = n; omega
      go_wp2
      go_ret
      exact ⟨ret_int (by rw [e.out]), by rw [e.out, ← hl, mixed_all] at hO; rw [hl] at hO; exact hO, hT⟩
end Go.Proofs.YtngdgogjlpjjpaeGreat

namespace Go.Proofs.YtngdgogjlpjjpaeGreat
open Go.RowKit
set_option linter.unusedVariables false

set_option maxHeartbeats 1000000 in
theorem markByteS_zero (a : Option Addr) (cap k : Nat) (w : World) :
    Calls Tryz.prog 92 #[.slice a 0 cap, .int .i64 k] w fun e w' => e = .returned (.int .i64 k) ∧ w = w' := by
  go_enter Tryz.func92, Tryz.ntmps92
  go_wp2
  go_loop [1, 5] (fun x i => i = .int .i64 0 ∧ x = .int .i64 k) (fun _ _ => 0)
  case atStart => exact ⟨rfl, rfl⟩
  case round =>
    obtain ⟨rfl, rfl⟩ := hrel
    go_wp2
    go_ret
    exact ⟨rfl, rfl⟩

theorem markByteS_any (a : Option Addr) (n cap base : Nat) (zs : List Int) (k : Nat) (w : World) (h : OB w base (.slice a n cap) zs) (hn : n ≤ 2097152) (hk : k ≤ 4194304) :
    Calls Tryz.prog 92 #[.slice a n cap, .int .i64 k] w fun e w' => e = .returned (.int .i64 ((k + n : Nat) : Int)) ∧ OB w' base (.slice a n cap) (marks k n) ∧ Turn (fun j => (Value.slice a n cap).ownBlock = some j) w w' := by
  by_cases h0 : n = 0
  · subst h0
    refine (markByteS_zero a cap k w).mono fun e w' he => ?_
    obtain ⟨rfl, rfl⟩ := he
    have hz : zs = [] := List.eq_nil_of_length_eq_zero h.bs.1
    subst hz
    exact ⟨rfl, h, Turn.refl _ _⟩
  · obtain ⟨g, rfl⟩ : ∃ g, a = some ⟨g, 0, none⟩ := by
      obtain ⟨hl, ⟨h0', _⟩ | ⟨g, cap', cur, hv, _⟩⟩ := h.1
      · simp at h0'; exact absurd h0'.2.1 h0
      · simp at hv; exact ⟨g, hv.1⟩
    refine (markByteS_some g n cap base zs k w h hn hk).mono fun e w' he => ⟨he.1, he.2.1, he.2.2.mono ?_⟩
    intro j hj
    subst hj
    rfl

theorem marks_getD (k n m : Nat) (h : m < n) : (marks k n).getD m 0 = ((k + m : Nat) : Int) % 256 := by simp [marks, List.getD_eq_getElem?_getD, h]

set_option maxHeartbeats 1000000 in
theorem heldByteS_any (a : Option Addr) (n cap : Nat) (k : Nat) (w : World) (h : BS w a n cap (marks k n)) (hn : n ≤ 2097152) (hk : k ≤ 4194304) :
    Calls Tryz.prog 97 #[.slice a n cap, .int .i64 k] w fun e w' => e = .returned (.int .i64 ((k + n : Nat) : Int)) ∧ w = w' := by
  go_enter Tryz.func97, Tryz.ntmps97
  go_wp2
  go_loop [1, 5] (fun x i => ∃ m : Nat, m ≤ n ∧ i = .int .i64 m ∧ x = .int .i64 ((k + m : Nat) : Int)) (fun _ i => n - (intOf i).toNat)
  case atStart => exact ⟨0, Nat.zero_le _, rfl, rfl⟩
  case round =>
    obtain ⟨m, hm, rfl, rfl⟩ := hrel
    by_cases hlt : m < n
    · have hlt' : (m : Int) < (n : Int) := by omega
      obtain ⟨b, off, rfl⟩ := h.some (by omega)
      have hc := h.at m hlt
      rw [marks_getD k n m hlt] at hc
      obtain ⟨K, hK⟩ : ∃ K : Int, K = ((k + m : Nat) : Int) := ⟨_, rfl⟩
      have hK0 : 0 ≤ K := by omega
      have hK1 : K ≤ 8388608 := by omega
      have HK := hide (show K + 1 = ((k + (m + 1) : Nat) : Int) by omega)
      rw [← hK] at hc ⊢
      have hne : (K % 256 != K % 256) = false := by simp
      clear hK
      go_wp2
      go_round
      case rel => exact ⟨m + 1, by omega, by go_num, by rw [HK.out]⟩
      case measure => simp [intOf]; omega
    · have e : Hid (m = n) := by show m = n; omega
      go_wp2
      go_ret
      exact ⟨ret_int (by rw [e.out]), rfl⟩

/-- the blocks of three slices -/
def Blks (v1 v2 v3 : Value) (j : Nat) : Prop := v1.ownBlock = some j ∨ v2.ownBlock = some j ∨ v3.ownBlock = some j

set_option maxHeartbeats 1000000 in
theorem markMem_any (a1 a2 a3 : Option Addr) (n1 d1 n2 d2 n3 d3 base : Nat) (x1 x2 x3 : List Int) (w : World) (h : Own3 w base (.slice a1 n1 d1) (.slice a2 n2 d2) (.slice a3 n3 d3) x1 x2 x3) (hn : n1 + n2 + n3 ≤ 2097152) :
    Calls Tryz.prog 27 #[.agg #[.slice a1 n1 d1, .slice a2 n2 d2, .slice a3 n3 d3], .int .i64 1] w fun e w' => e = .returned (.int .i64 ((1 + n1 + n2 + n3 : Nat) : Int)) ∧ Own3 w' base (.slice a1 n1 d1) (.slice a2 n2 d2) (.slice a3 n3 d3) (marks 1 n1) (marks (1 + n1) n2) (marks (1 + n1 + n2) n3) ∧ Turn (Blks (.slice a1 n1 d1) (.slice a2 n2 d2) (.slice a3 n3 d3)) w w' := by
  have hlt : ∀ j, Blks (.slice a1 n1 d1) (.slice a2 n2 d2) (.slice a3 n3 d3) j → j < w.heap.size := by
    intro j hj
    rcases hj with e | e | e
    · exact (h.1.lt j e).2
    · exact (h.2.1.lt j e).2
    · exact (h.2.2.1.lt j e).2
  have kb := Blk.new w #[.slice a1 n1 d1, .slice a2 n2 d2, .slice a3 n3 d3] 50
  have h' := own3_alloc h (.cells #[.slice a1 n1 d1, .slice a2 n2 d2, .slice a3 n3 d3] 50)
  have T0 : Turn (Blks (.slice a1 n1 d1) (.slice a2 n2 d2) (.slice a3 n3 d3)) w (w.alloc (.cells #[.slice a1 n1 d1, .slice a2 n2 d2, .slice a3 n3 d3] 50)) := turn_alloc w _
  obtain ⟨o12, o13, o23⟩ := h.2.2.2
  go_enter Tryz.func27, Tryz.ntmps27
  go_wp2_with fail
  refine (markByteS_any a1 n1 d1 base x1 1 _ h'.1 (by omega) (by omega)).mono ?_
  rintro e w1 ⟨rfl, p1, t1⟩
  have kb1 := turn_blk t1 kb (fun e => by have := hlt _ (Or.inl e); omega)
  have p2 := turn_ob t1 h'.2.1 (fun k hk e => Nat.lt_irrefl _ (o12 k k e hk))
  have p3 := turn_ob t1 h'.2.2.1 (fun k hk e => Nat.lt_irrefl _ (o13 k k e hk))
  have T1 := T0.trans (t1.mono (fun k hk => Or.inl hk))
  clear t1 kb h'
  obtain ⟨q1, q2, q3, q4⟩ := kb1.three
  go_wp2_with fail
  refine (markByteS_any a2 n2 d2 base x2 (1 + n1) _ p2 (by omega) (by omega)).mono ?_
  rintro e w2 ⟨rfl, p2, t2⟩
  have kb2 := turn_blk t2 kb1 (fun e => by have := hlt _ (Or.inr (Or.inl e)); omega)
  have p1 := turn_ob t2 p1 (fun k hk e => Nat.lt_irrefl _ (o12 k k hk e))
  have p3 := turn_ob t2 p3 (fun k hk e => Nat.lt_irrefl _ (o23 k k e hk))
  have T2 := T1.trans (t2.mono (fun k hk => Or.inr (Or.inl hk)))
  clear t2 kb1 q1 q2 q3 q4
  obtain ⟨q1, q2, q3, q4⟩ := kb2.three
  go_wp2_with fail
  refine (markByteS_any a3 n3 d3 base x3 (1 + n1 + n2) _ p3 (by omega) (by omega)).mono ?_
  rintro e w3 ⟨rfl, p3, t3⟩
  have p1 := turn_ob t3 p1 (fun k hk e => Nat.lt_irrefl _ (o13 k k hk e))
  have p2 := turn_ob t3 p2 (fun k hk e => Nat.lt_irrefl _ (o23 k k hk e))
  have T3 := T2.trans (t3.mono (fun k hk => Or.inr (Or.inr hk)))
  go_wp2
  go_ret
  exact ⟨rfl, ⟨p1, p2, p3, o12, o13, o23⟩, T3⟩

set_option maxHeartbeats 1000000 in
theorem heldMem_any (a1 a2 a3 : Option Addr) (n1 d1 n2 d2 n3 d3 : Nat) (w : World) (h1 : BS w a1 n1 d1 (marks 1 n1)) (h2 : BS w a2 n2 d2 (marks (1 + n1) n2)) (h3 : BS w a3 n3 d3 (marks (1 + n1 + n2) n3)) (hn : n1 + n2 + n3 ≤ 2097152) :
    Calls Tryz.prog 28 #[.agg #[.slice a1 n1 d1, .slice a2 n2 d2, .slice a3 n3 d3], .int .i64 1] w fun e w' => e = .returned (.int .i64 ((1 + n1 + n2 + n3 : Nat) : Int)) ∧ Below w.heap.size w w' := by
  have hB0 : Below w.heap.size w (w.alloc (.cells #[.slice a1 n1 d1, .slice a2 n2 d2, .slice a3 n3 d3] 50)) := (Below.refl _ _).alloc (Nat.le_refl _) _
  go_enter Tryz.func28, Tryz.ntmps28
  go_wp2_with fail
  refine (heldByteS_any a1 n1 d1 1 _ (h1.below hB0) (by omega) (by omega)).mono ?_
  rintro e w1 ⟨rfl, rfl⟩
  have e1 : (0 : Int) ≤ ((1 + n1 : Nat) : Int) := by omega
  go_wp2_with fail
  refine (heldByteS_any a2 n2 d2 (1 + n1) _ (h2.below hB0) (by omega) (by omega)).mono ?_
  rintro e w1 ⟨rfl, rfl⟩
  have e2 : (0 : Int) ≤ ((1 + n1 + n2 : Nat) : Int) := by omega
  go_wp2_with fail
  refine (heldByteS_any a3 n3 d3 (1 + n1 + n2) _ (h3.below hB0) (by omega) (by omega)).mono ?_
  rintro e w1 ⟨rfl, rfl⟩
  have e3 : (0 : Int) ≤ ((1 + n1 + n2 + n3 : Nat) : Int) := by omega
  go_wp2
  go_ret
  exact ⟨rfl, hB0⟩
end Go.Proofs.YtngdgogjlpjjpaeGreat

namespace Go.Proofs.YtngdgogjlpjjpaeGreat
open Go.RowKit
set_option linter.unusedVariables false

theorem szByteS_lo (a : Option Addr) (n cap : Nat) (l : Int) (w : World) (h0 : 0 ≤ l) (h1 : l ≤ 1048576) (hn : n ≤ maxLen) (h : l < n) :
    Calls Tryz.prog 104 #[.slice a n cap, .int .i64 l] w fun e w' => e = .returned (.int .i64 (-1)) ∧ w = w' :=
  (szByteS_any a n cap l w h0 h1 hn).mono fun e w' he => ⟨by rw [he.1, if_pos h], he.2.symm⟩
theorem szByteS_hi (a : Option Addr) (n cap : Nat) (l : Int) (w : World) (h0 : 0 ≤ l) (h1 : l ≤ 1048576) (hn : n ≤ maxLen) (h : n ≤ l) :
    Calls Tryz.prog 104 #[.slice a n cap, .int .i64 l] w fun e w' => e = .returned (.int .i64 (l - n)) ∧ w = w' :=
  (szByteS_any a n cap l w h0 h1 hn).mono fun e w' he => ⟨by rw [he.1, if_neg (by omega)], he.2.symm⟩

set_option maxHeartbeats 400000 in
theorem szMem_hi (a1 a2 a3 : Option Addr) (n1 c1 n2 c2 n3 c3 : Nat) (l : Int) (w : World) (h0 : 0 ≤ l) (h1 : l ≤ 1048576) (m1 : n1 ≤ maxLen) (m2 : n2 ≤ maxLen) (m3 : n3 ≤ maxLen) (h : (n1 : Int) + n2 + n3 ≤ l) :
    Calls Tryz.prog 118 #[.agg #[.slice a1 n1 c1, .slice a2 n2 c2, .slice a3 n3 c3], .int .i64 l] w fun e w' => e = .returned (.int .i64 (l - n1 - n2 - n3)) ∧ Below w.heap.size w w' := by
  go_enter Tryz.func118, Tryz.ntmps118
  go_wp2_with fail
  refine (szByteS_hi a1 n1 c1 l _ (by omega) (by omega) m1 (by omega)).mono ?_
  rintro e w' ⟨rfl, rfl⟩
  go_wp2_with fail
  refine (szByteS_hi a2 n2 c2 _ _ (by omega) (by omega) m2 (by omega)).mono ?_
  rintro e w' ⟨rfl, rfl⟩
  go_wp2_with fail
  refine (szByteS_hi a3 n3 c3 _ _ (by omega) (by omega) m3 (by omega)).mono ?_
  rintro e w' ⟨rfl, rfl⟩
  go_wp2
  go_ret
  exact ⟨rfl, (Below.refl _ _).alloc (Nat.le_refl _) _⟩

set_option maxHeartbeats 400000 in
theorem szMem_lo (a1 a2 a3 : Option Addr) (n1 c1 n2 c2 n3 c3 : Nat) (l : Int) (w : World) (h0 : 0 ≤ l) (h1 : l ≤ 1048576) (m1 : n1 ≤ maxLen) (m2 : n2 ≤ maxLen) (m3 : n3 ≤ maxLen) (h : l < (n1 : Int) + n2 + n3) :
    Calls Tryz.prog 118 #[.agg #[.slice a1 n1 c1, .slice a2 n2 c2, .slice a3 n3 c3], .int .i64 l] w fun e w' => e = .returned (.int .i64 (-1)) ∧ Below w.heap.size w w' := by
  by_cases k1 : l < (n1 : Int)
  · go_enter Tryz.func118, Tryz.ntmps118
    go_wp2_with fail
    refine (szByteS_lo a1 n1 c1 l _ (by omega) (by omega) m1 (by omega)).mono ?_
    rintro e w' ⟨rfl, rfl⟩
    go_wp2
    go_ret
    exact ⟨rfl, (Below.refl _ _).alloc (Nat.le_refl _) _⟩
  · by_cases k2 : l < (n1 : Int) + n2
    · go_enter Tryz.func118, Tryz.ntmps118
      go_wp2_with fail
      refine (szByteS_hi a1 n1 c1 l _ (by omega) (by omega) m1 (by omega)).mono ?_
      rintro e w' ⟨rfl, rfl⟩
      go_wp2_with fail
      refine (szByteS_lo a2 n2 c2 _ _ (by omega) (by omega) m2 (by omega)).mono ?_
      rintro e w' ⟨rfl, rfl⟩
      go_wp2
      go_ret
      exact ⟨rfl, (Below.refl _ _).alloc (Nat.le_refl _) _⟩
    · go_enter Tryz.func118, Tryz.ntmps118
      go_wp2_with fail
      refine (szByteS_hi a1 n1 c1 l _ (by omega) (by omega) m1 (by omega)).mono ?_
      rintro e w' ⟨rfl, rfl⟩
      go_wp2_with fail
      refine (szByteS_hi a2 n2 c2 _ _ (by omega) (by omega) m2 (by omega)).mono ?_
      rintro e w' ⟨rfl, rfl⟩
      go_wp2_with fail
      refine (szByteS_lo a3 n3 c3 _ _ (by omega) (by omega) m3 (by omega)).mono ?_
      rintro e w' ⟨rfl, rfl⟩
      go_wp2
      go_ret
      exact ⟨rfl, (Below.refl _ _).alloc (Nat.le_refl _) _⟩

end Go.Proofs.YtngdgogjlpjjpaeGreat

namespace Go.Proofs.YtngdgogjlpjjpaeGreat
open Go.RowKit
set_option linter.unusedVariables false

set_option maxHeartbeats 1000000 in
theorem toMem_any (a1 a2 a3 : Option Addr) (n1 c1 n2 c2 n3 c3 : Nat) (x1 x2 x3 : List Int) (w : World) (h1 : BS w a1 n1 c1 x1) (h2 : BS w a2 n2 c2 x2) (h3 : BS w a3 n3 c3 x3) (hn : n1 + n2 + n3 ≤ 1048576) :
    Calls Tryz.prog 123 #[.agg #[.slice a1 n1 c1, .slice a2 n2 c2, .slice a3 n3 c3]] w fun e w' => ∃ g1 g2 g3, e = .returned (.agg #[.slice (some ⟨g1, 0, none⟩) n1 n1, .slice (some ⟨g2, 0, none⟩) n2 n2, .slice (some ⟨g3, 0, none⟩) n3 n3]) ∧
      w.heap.size ≤ g1 ∧ g1 < g2 ∧ g2 < g3 ∧ Row8 w' g1 x1 ∧ Row8 w' g2 x2 ∧ Row8 w' g3 x3 ∧ Below w.heap.size w w' := by
  go_enter Tryz.func123, Tryz.ntmps123
  go_wp2_with fail
  have hB0 : Below w.heap.size w (((w.alloc (.cells #[.slice a1 n1 c1, .slice a2 n2 c2, .slice a3 n3 c3] 84)).alloc (.cells #[.slice none 0 0, .slice none 0 0, .slice none 0 0] 50)).alloc (.cells #[.slice none 0 0, .slice none 0 0, .slice none 0 0] 50)) :=
    ((Below.refl _ _).alloc (Nat.le_refl _) _).alloc (by simp) _ |>.alloc (by simp; omega) _
  refine (toByteS_any a1 n1 c1 x1 _ (h1.below hB0) (by omega)).mono ?_
  rintro e w1 ⟨rfl, hr1, hb1⟩
  have kb1 := (((Blk.new w #[.slice a1 n1 c1, .slice a2 n2 c2, .slice a3 n3 c3] 84).alloc (.cells #[.slice none 0 0, .slice none 0 0, .slice none 0 0] 50)).alloc (.cells #[.slice none 0 0, .slice none 0 0, .slice none 0 0] 50)).below hb1
  have kr1 := ((Blk.new (w.alloc (.cells #[.slice a1 n1 c1, .slice a2 n2 c2, .slice a3 n3 c3] 84)) #[.slice none 0 0, .slice none 0 0, .slice none 0 0] 50).alloc (.cells #[.slice none 0 0, .slice none 0 0, .slice none 0 0] 50)).below hb1
  have ko1 := (Blk.new ((w.alloc (.cells #[.slice a1 n1 c1, .slice a2 n2 c2, .slice a3 n3 c3] 84)).alloc (.cells #[.slice none 0 0, .slice none 0 0, .slice none 0 0] 50)) #[.slice none 0 0, .slice none 0 0, .slice none 0 0] 50).below hb1
  have hB1 := hB0.trans (hb1.mono (by simp; omega))
  clear hb1 hB0
  simp only [World.size_alloc] at kb1 kr1 ko1 hr1
  obtain ⟨q1, q2, q3, q4⟩ := kb1.three
  obtain ⟨q5, q6, q7, q8⟩ := ko1.three
  go_wp2_with fail
  have hB1' := hB1.setCell (p := ⟨w.heap.size + 1 + 1, 0, none⟩) (by simp; omega) (.slice (some ⟨w.heap.size + 1 + 1 + 1, 0, none⟩) n1 n1)
  refine (toByteS_any a2 n2 c2 x2 _ (h2.below hB1') (by omega)).mono ?_
  rintro e w2 ⟨rfl, hr2, hb2⟩
  have kb2 := (kb1.other ⟨w.heap.size + 1 + 1, 0, none⟩ (.slice (some ⟨w.heap.size + 1 + 1 + 1, 0, none⟩) n1 n1) (by dsimp only; omega)).below hb2
  have kr2 := (kr1.other ⟨w.heap.size + 1 + 1, 0, none⟩ (.slice (some ⟨w.heap.size + 1 + 1 + 1, 0, none⟩) n1 n1) (by dsimp only; omega)).below hb2
  have ko2 := (ko1.set 0 (.slice (some ⟨w.heap.size + 1 + 1 + 1, 0, none⟩) n1 n1)).below hb2
  have hrx := hr1
  have hr1 := (hr1.other ⟨w.heap.size + 1 + 1, 0, none⟩ (.slice (some ⟨w.heap.size + 1 + 1 + 1, 0, none⟩) n1 n1) (by dsimp only; omega)).below hb2
  rw [size_setCell] at hr2 hb2
  have hz0 := (hrx.lt)
  have hz1 := (Row8.lt hr1)
  have hz01 : w1.heap.size < w2.heap.size := hr2.lt
  have hs1 := ko1.lt
  have hB2 := hB1'.trans (hb2.mono (by omega))
  clear hb2 hB1 hB1' q1 q2 q3 q4 q5 q6 q7 q8 kb1 kr1 ko1
  simp only [List.setIfInBounds_toArray, List.set_cons_zero] at ko2
  obtain ⟨q1, q2, q3, q4⟩ := kb2.three
  obtain ⟨q5, q6, q7, q8⟩ := ko2.three
  go_wp2_with fail
  have hB2' := hB2.setCell (p := ⟨w.heap.size + 1 + 1, 1, none⟩) (by simp; omega) (.slice (some ⟨w1.heap.size, 0, none⟩) n2 n2)
  refine (toByteS_any a3 n3 c3 x3 _ (h3.below hB2') (by omega)).mono ?_
  rintro e w3 ⟨rfl, hr3, hb3⟩
  have kr3 := (kr2.other ⟨w.heap.size + 1 + 1, 1, none⟩ (.slice (some ⟨w1.heap.size, 0, none⟩) n2 n2) (by dsimp only; omega)).below hb3
  have ko3 := (ko2.set 1 (.slice (some ⟨w1.heap.size, 0, none⟩) n2 n2)).below hb3
  have hr1 := (hr1.other ⟨w.heap.size + 1 + 1, 1, none⟩ (.slice (some ⟨w1.heap.size, 0, none⟩) n2 n2) (by dsimp only; omega)).below hb3
  have hr2 := (hr2.other ⟨w.heap.size + 1 + 1, 1, none⟩ (.slice (some ⟨w1.heap.size, 0, none⟩) n2 n2) (by dsimp only; omega)).below hb3
  rw [size_setCell] at hr3 hb3
  have hz2 := hr3.lt
  have hs2 := hb3.size
  rw [size_setCell] at hs2
  have hB3 := hB2'.trans (hb3.mono (by omega))
  clear hb3 hB2 hB2' q1 q2 q3 q4 q5 q6 q7 q8 kb2 kr2 ko2
  simp only [List.setIfInBounds_toArray, List.set_cons_zero, List.set_cons_succ] at ko3
  obtain ⟨q5, q6, q7, q8⟩ := ko3.three
  obtain ⟨q1, q2, q3, q4⟩ := kr3.three
  go_wp2
  have hs3 := hr1.lt
  refine bodyPost_ret (v := .agg #[.slice (some ⟨w.heap.size + 1 + 1 + 1, 0, none⟩) n1 n1, .slice (some ⟨w1.heap.size, 0, none⟩) n2 n2, .slice (some ⟨w2.heap.size, 0, none⟩) n3 n3])
    (by simp [results, Tryz.results123, go_sem, q1, q2, q3]) rfl ⟨w.heap.size + 1 + 1 + 1, w1.heap.size, w2.heap.size, rfl, by omega, hz0, hz01, ?_, ?_, ?_, ?_⟩
  · exact (((hr1.other _ _ (by dsimp only; omega)).other _ _ (by dsimp only; omega)).other _ _ (by dsimp only; omega)).other _ _ (by dsimp only; omega)
  · exact (((hr2.other _ _ (by dsimp only; omega)).other _ _ (by dsimp only; omega)).other _ _ (by dsimp only; omega)).other _ _ (by dsimp only; omega)
  · exact (((hr3.other _ _ (by dsimp only; omega)).other _ _ (by dsimp only; omega)).other _ _ (by dsimp only; omega)).other _ _ (by dsimp only; omega)
  · exact (((hB3.setCell (by dsimp only; omega) _).setCell (by dsimp only; omega) _).setCell (by dsimp only; omega) _).setCell (by dsimp only; omega) _

set_option maxHeartbeats 1000000 in
theorem eqMem_any (a1 a2 a3 b1 b2 b3 : Option Addr) (n1 c1 n2 c2 n3 c3 m1 d1 m2 d2 m3 d3 : Nat) (x1 x2 x3 y1 y2 y3 : List Int) (w : World) (h1 : BS w a1 n1 c1 x1) (h2 : BS w a2 n2 c2 x2) (h3 : BS w a3 n3 c3 x3)
    (k1 : BS w b1 m1 d1 y1) (k2 : BS w b2 m2 d2 y2) (k3 : BS w b3 m3 d3 y3) :
    Calls Tryz.prog 24 #[.agg #[.slice a1 n1 c1, .slice a2 n2 c2, .slice a3 n3 c3], .agg #[.slice b1 m1 d1, .slice b2 m2 d2, .slice b3 m3 d3]] w fun e w' => e = .returned (.bool (decide (x1 = y1) && (decide (x2 = y2) && decide (x3 = y3)))) ∧ Below w.heap.size w w' := by
  have hB0 : Below w.heap.size w ((w.alloc (.cells #[.slice a1 n1 c1, .slice a2 n2 c2, .slice a3 n3 c3] 50)).alloc (.cells #[.slice b1 m1 d1, .slice b2 m2 d2, .slice b3 m3 d3] 50)) :=
    ((Below.refl _ _).alloc (Nat.le_refl _) _).alloc (by simp) _
  go_enter Tryz.func24, Tryz.ntmps24
  go_wp2_with fail
  refine (eqByteS_any a1 b1 n1 c1 m1 d1 x1 y1 _ (h1.below hB0) (k1.below hB0)).mono ?_
  rintro e w1 ⟨rfl, hb1⟩
  have hB1 := hB0.trans (hb1.mono (by simp; omega))
  have u1 := ((Blk.new w #[.slice a1 n1 c1, .slice a2 n2 c2, .slice a3 n3 c3] 50).alloc (.cells #[.slice b1 m1 d1, .slice b2 m2 d2, .slice b3 m3 d3] 50)).below hb1
  have v1 := (Blk.new (w.alloc (.cells #[.slice a1 n1 c1, .slice a2 n2 c2, .slice a3 n3 c3] 50)) #[.slice b1 m1 d1, .slice b2 m2 d2, .slice b3 m3 d3] 50).below hb1
  simp only [World.size_alloc] at v1
  clear hb1
  by_cases e1 : x1 = y1
  · simp only [decide_eq_true e1]
    obtain ⟨q1, q2, q3, q4⟩ := u1.three
    obtain ⟨q5, q6, q7, q8⟩ := v1.three
    have E1 := hide e1
    clear e1
    go_wp2_with fail
    refine (eqByteS_any a2 b2 n2 c2 m2 d2 x2 y2 _ (h2.below hB1) (k2.below hB1)).mono ?_
    rintro e w2 ⟨rfl, hb2⟩
    have hB2 := hB1.trans (hb2.mono hB1.size)
    have u2 := u1.below hb2
    have v2 := v1.below hb2
    clear hb2 q1 q2 q3 q4 q5 q6 q7 q8 u1 v1
    by_cases e2 : x2 = y2
    · simp only [decide_eq_true e2]
      obtain ⟨q1, q2, q3, q4⟩ := u2.three
      obtain ⟨q5, q6, q7, q8⟩ := v2.three
      have E2 := hide e2
      clear e2
      go_wp2_with fail
      refine (eqByteS_any a3 b3 n3 c3 m3 d3 x3 y3 _ (h3.below hB2) (k3.below hB2)).mono ?_
      rintro e w3 ⟨rfl, hb3⟩
      have hB3 := hB2.trans (hb3.mono hB2.size)
      clear hb3 q1 q2 q3 q4 q5 q6 q7 q8 u2 v2
      by_cases e3 : x3 = y3
      · simp only [decide_eq_true e3]
        have E3 := hide e3
        clear e3
        go_wp2
        go_ret
        exact ⟨ret_bool (by simp [unhide E1, unhide E2, unhide E3]), hB3⟩
      · simp only [decide_eq_false e3]
        have E3 := hide e3
        clear e3
        go_wp2
        go_ret
        exact ⟨ret_bool (by simp [unhide E3]), hB3⟩
    · simp only [decide_eq_false e2]
      have E2 := hide e2
      clear e2
      go_wp2
      go_ret
      exact ⟨ret_bool (by simp [unhide E2]), hB2⟩
  · simp only [decide_eq_false e1]
    have E1 := hide e1
    clear e1
    go_wp2
    go_ret
    exact ⟨ret_bool (by simp [unhide E1]), hB1⟩

theorem eqMem_same (a1 a2 a3 b1 b2 b3 : Option Addr) (n1 c1 n2 c2 n3 c3 m1 d1 m2 d2 m3 d3 : Nat) (x1 x2 x3 : List Int) (w : World) (h1 : BS w a1 n1 c1 x1) (h2 : BS w a2 n2 c2 x2) (h3 : BS w a3 n3 c3 x3)
    (k1 : BS w b1 m1 d1 x1) (k2 : BS w b2 m2 d2 x2) (k3 : BS w b3 m3 d3 x3) :
    Calls Tryz.prog 24 #[.agg #[.slice a1 n1 c1, .slice a2 n2 c2, .slice a3 n3 c3], .agg #[.slice b1 m1 d1, .slice b2 m2 d2, .slice b3 m3 d3]] w fun e w' => e = .returned (.bool true) ∧ Below w.heap.size w w' :=
  (eqMem_any a1 a2 a3 b1 b2 b3 n1 c1 n2 c2 n3 c3 m1 d1 m2 d2 m3 d3 x1 x2 x3 x1 x2 x3 w h1 h2 h3 k1 k2 k3).mono fun e w' h => ⟨by rw [h.1]; simp, h.2⟩
end Go.Proofs.YtngdgogjlpjjpaeGreat

namespace Go.Proofs.YtngdgogjlpjjpaeGreat
open Go.RowKit
set_option linter.unusedVariables false
set_option linter.unusedSimpArgs false
set_option maxRecDepth 100000

section
variable {α : Type} (f : α → List Value) (sz : Nat) (hf : ∀ x, (f x).length = sz) (z : α)
include hf
theorem flat_len : ∀ xs : List α, (xs.flatMap f).length = xs.length * sz
  | [] => by simp
  | x :: xs => by simp only [List.flatMap_cons, List.length_append, List.length_cons, flat_len xs, hf x]; rw [Nat.add_mul]; omega
theorem flat_get : ∀ (xs : List α) (i j : Nat), i < xs.length → j < sz → (xs.flatMap f)[i * sz + j]? = (f (xs.getD i z))[j]?
  | [], i, j, h, _ => by simp at h
  | x :: xs, 0, j, h, hj => by simp [List.getElem?_append_left (show j < (f x).length by rw [hf]; exact hj)]
  | x :: xs, i + 1, j, h, hj => by
    have ih := flat_get xs i j (by simpa using h) hj
    have e : (i + 1) * sz + j = (f x).length + (i * sz + j) := by rw [hf, Nat.add_mul]; omega
    rw [List.flatMap_cons, e, List.getElem?_append_right (by omega), Nat.add_sub_cancel_left, ih]
    simp
theorem take_flat {cs : Array Value} {xs : List α} (h : cs.size = xs.length * sz) (hs : 0 < sz) (hc : ∀ i, i < xs.length → ∀ j, j < sz → cs[i * sz + j]? = (f (xs.getD i z))[j]?) : cs.toList.take (xs.length * sz) = xs.flatMap f := by
  apply List.ext_getElem?
  intro k
  by_cases hk : k < xs.length * sz
  · have e : k = k / sz * sz + k % sz := by rw [Nat.mul_comm]; exact (Nat.div_add_mod k sz).symm
    have h1 : k / sz < xs.length := by rw [Nat.div_lt_iff_lt_mul hs]; exact hk
    have h2 : k % sz < sz := Nat.mod_lt _ hs
    rw [List.getElem?_take, if_pos hk, Array.getElem?_toList]
    rw [e, hc _ h1 _ h2, flat_get f sz hf z xs _ _ h1 h2]
  · rw [List.getElem?_eq_none (by simp; omega), List.getElem?_eq_none (by rw [flat_len f sz hf]; omega)]
end
/-- A ROW of n things of sz cells, in a block of its own -/
def RowF {α : Type} (t : TypeId) (sz : Nat) (f : α → List Value) (w : World) (g n : Nat) (F : Nat → α) : Prop :=
  ∃ cs, Blk w g cs t ∧ cs.size = n * sz ∧ ∀ i, i < n → ∀ j, j < sz → cs[i * sz + j]? = (f (F i))[j]?
section
variable {α : Type} {t : TypeId} {sz : Nat} {f : α → List Value} {w w' : World} {g n : Nat} {F : Nat → α}
theorem RowF.below (h : RowF t sz f w g n F) (hb : Below w.heap.size w w') : RowF t sz f w' g n F := by
  obtain ⟨cs, h1, h2, h3⟩ := h
  exact ⟨cs, h1.below hb, h2, h3⟩
theorem RowF.lt (h : RowF t sz f w g n F) : g < w.heap.size := by obtain ⟨cs, h1, _⟩ := h; exact h1.lt
theorem RowF.blk (h : RowF t sz f w g n F) : ∃ cs, Blk w g cs t := by obtain ⟨cs, h1, _⟩ := h; exact ⟨cs, h1⟩
theorem RowF.cell (h : RowF t sz f w g n F) (hf : ∀ x, (f x).length = sz) (i j : Nat) (hi : i < n) (hj : j < sz) (v : Value) (hv : (f (F i))[j]? = some v) : w.cell? ⟨g, i * sz + j, none⟩ = some v := by
  obtain ⟨cs, h1, h2, h3⟩ := h
  rw [h1.cell, h3 i hi j hj, hv]
theorem RowF.og (h : RowF t sz f w g n F) (hf : ∀ x, (f x).length = sz) (hs : 0 < sz) {base : Nat} (hg : base ≤ g) (hn : n ≤ maxLen) {xs : List α} (hl : xs.length = n) (z : α) (he : ∀ i, i < n → F i = xs.getD i z) : OG t sz f w base (.slice (some ⟨g, 0, none⟩) n n) xs := by
  obtain ⟨cs, h1, h2, h3⟩ := h
  subst hl
  refine ⟨flat_len f sz hf xs, .inr ⟨g, xs.length, cs, rfl, hg, h1, Nat.le_refl _, hn, h2, take_flat f sz hf z h2 hs (fun i hi j hj => ?_)⟩⟩
  rw [h3 i hi j hj, he i hi]
theorem rowF_made (z0 : α) (v : Value) (hv : v.cells.toList = f z0) (hs : sz = v.cells.size) {base : Nat} (h : w.ownsRow base t sz (.slice (some ⟨g, 0, none⟩) n n) n (madeCells v.cells (n * sz)).toList) : RowF t sz f w g n (fun _ => z0) := by
  obtain ⟨hl, h | ⟨g', cap, cur, hv', hb, hh, h1, h2, h3, h4⟩⟩ := h
  · simp at h
  · simp at hv'
    obtain ⟨rfl, rfl⟩ := hv'
    have e : cur.toList = (madeCells v.cells (n * sz)).toList := by
      rw [← h4, List.take_of_length_le (by simp [h3])]
    have e2 : cur = madeCells v.cells (n * sz) := Array.toList_inj.1 e
    refine ⟨cur, hh, h3, fun i hi j hj => ?_⟩
    have hlt : i * sz + j < n * sz := by
      have : (i + 1) * sz ≤ n * sz := Nat.mul_le_mul_right _ (by omega)
      rw [Nat.add_mul] at this
      omega
    have hm : (i * sz + j) % v.cells.size = j := by rw [← hs, Nat.mul_comm, Nat.mul_add_mod]; exact Nat.mod_eq_of_lt hj
    rw [e2, ← hv]
    simp [madeCells, hlt, hm, show j < v.cells.size by omega]
theorem ar_at {cs : Array Value} {i : Nat} {v : Value} (h : i < cs.size) : (cs.setIfInBounds i v)[i]? = some v := by simp [h]
/-- one thing laid anew, cell by cell -/
theorem RowF.set1 (h : RowF t 1 f w g n F) (m : Nat) (hm : m < n) (x : α) (a : Value) (hx : f x = [a]) : RowF t 1 f (w.setCell ⟨g, m, none⟩ a) g n (fun i => if i = m then x else F i) := by
  obtain ⟨cs, h1, h2, h3⟩ := h
  refine ⟨_, h1.set m a, by simp [h2], fun i hi j hj => ?_⟩
  by_cases e : i = m
  · subst e
    obtain rfl : j = 0 := by omega
    simp [hx, h2, hi]
  · simp only [e, if_false]
    rw [Array.getElem?_setIfInBounds_ne (by omega)]
    exact h3 i hi j hj
theorem RowF.set3 (h : RowF t 3 f w g n F) (m : Nat) (hm : m < n) (x : α) (a b c : Value) (hx : f x = [a, b, c]) : RowF t 3 f (((w.setCell ⟨g, m * 3, none⟩ a).setCell ⟨g, m * 3 + 1, none⟩ b).setCell ⟨g, m * 3 + 2, none⟩ c) g n (fun i => if i = m then x else F i) := by
  obtain ⟨cs, h1, h2, h3⟩ := h
  refine ⟨_, ((h1.set (m * 3) a).set (m * 3 + 1) b).set (m * 3 + 2) c, by simp [h2], fun i hi j hj => ?_⟩
  by_cases e : i = m
  · subst e
    simp only [if_true, hx]
    match j, hj with
    | 0, _ => exact ar_other (ar_other (ar_at (by rw [h2]; omega)) (by omega)) (by omega)
    | 1, _ => exact ar_other (ar_at (by simp [h2]; omega)) (by omega)
    | 2, _ => exact ar_at (by simp [h2]; omega)
  · simp only [e, if_false]
    rw [Array.getElem?_setIfInBounds_ne (by omega), Array.getElem?_setIfInBounds_ne (by omega), Array.getElem?_setIfInBounds_ne (by omega)]
    exact h3 i hi j hj
theorem RowF.set4 (h : RowF t 4 f w g n F) (m : Nat) (hm : m < n) (x : α) (a b c d : Value) (hx : f x = [a, b, c, d]) : RowF t 4 f ((((w.setCell ⟨g, m * 4, none⟩ a).setCell ⟨g, m * 4 + 1, none⟩ b).setCell ⟨g, m * 4 + 2, none⟩ c).setCell ⟨g, m * 4 + 3, none⟩ d) g n (fun i => if i = m then x else F i) := by
  obtain ⟨cs, h1, h2, h3⟩ := h
  refine ⟨_, (((h1.set (m * 4) a).set (m * 4 + 1) b).set (m * 4 + 2) c).set (m * 4 + 3) d, by simp [h2], fun i hi j hj => ?_⟩
  by_cases e : i = m
  · subst e
    simp only [if_true, hx]
    match j, hj with
    | 0, _ => exact ar_other (ar_other (ar_other (ar_at (by rw [h2]; omega)) (by omega)) (by omega)) (by omega)
    | 1, _ => exact ar_other (ar_other (ar_at (by simp [h2]; omega)) (by omega)) (by omega)
    | 2, _ => exact ar_other (ar_at (by simp [h2]; omega)) (by omega)
    | 3, _ => exact ar_at (by simp [h2]; omega)
  · simp only [e, if_false]
    rw [Array.getElem?_setIfInBounds_ne (by omega), Array.getElem?_setIfInBounds_ne (by omega), Array.getElem?_setIfInBounds_ne (by omega), Array.getElem?_setIfInBounds_ne (by omega)]
    exact h3 i hi j hj
end
/-- heads that were made at once, with a row each -/
structure HR {α β : Type} (th : TypeId) (hs : Nat) (hc : α → List Value) (tr : TypeId) (rs : Nat) (rc : β → List Value) (sv : α → Value) (ct : α → List β) (w : World) (base g n : Nat) (f : Nat → α) : Prop where
  head : RowF th hs hc w g n f
  rows : ∀ i, i < n → OG tr rs rc w base (sv (f i)) (ct (f i))
  apart : ∀ i j, i < n → j < n → i ≠ j → ∀ k, (sv (f i)).ownBlock = some k → (sv (f j)).ownBlock ≠ some k
section
variable {α β : Type} {th : TypeId} {hs : Nat} {hc : α → List Value} {tr : TypeId} {rs : Nat} {rc : β → List Value} {sv : α → Value} {ct : α → List β} {w w' : World} {base g n : Nat} {f : Nat → α}
theorem HR.below (h : HR th hs hc tr rs rc sv ct w base g n f) (hb : Below w.heap.size w w') : HR th hs hc tr rs rc sv ct w' base g n f := ⟨h.head.below hb, fun i hi => (h.rows i hi).below hb, h.apart⟩
theorem HR.put (h : HR th hs hc tr rs rc sv ct w base g n f) (hne : th ≠ tr) {m : Nat} (hm : m < n) {x : α} (R : RowF th hs hc w' g n (fun i => if i = m then x else f i)) (T : Turn (fun j => j = g) w w') (hx : OG tr rs rc w base (sv x) (ct x)) (hap : ∀ i, i < n → i ≠ m → ∀ k, (sv (f i)).ownBlock = some k → (sv x).ownBlock ≠ some k) : HR th hs hc tr rs rc sv ct w' base g n (fun i => if i = m then x else f i) := by
  obtain ⟨cg, kg⟩ := h.head.blk
  have ng : ∀ (v : Value) (ys : List β), OG tr rs rc w base v ys → ∀ k, v.ownBlock = some k → ¬ (fun j => j = g) k := fun v ys ho k hk e => by
    have e' : k = g := e
    subst e'
    obtain ⟨c1, k1⟩ := own_kind ho hk
    exact hne (blk_kind kg k1)
  refine ⟨R, fun i hi => ?_, fun i j hi hj hij k hk => ?_⟩
  · by_cases e : i = m
    · simp only [e, if_true]; exact hx.kept T (ng _ _ hx)
    · simp only [e, if_false]; exact (h.rows i hi).kept T (ng _ _ (h.rows i hi))
  · by_cases e1 : i = m
    · have e2 : ¬ j = m := fun e => hij (e1.trans e.symm)
      simp only [e1, e2, if_true, if_false] at hk ⊢
      exact fun e => hap j hj e2 k e hk
    · by_cases e2 : j = m
      · simp only [e1, e2, if_true, if_false] at hk ⊢
        exact hap i hi e1 k hk
      · simp only [e1, e2, if_false] at hk ⊢
        exact h.apart i j hi hj hij k hk
theorem HR.or (h : HR th hs hc tr rs rc sv ct w base g n f) (hf : ∀ x, (hc x).length = hs) (h0 : 0 < hs) (hg : base ≤ g) (hn : n ≤ maxLen) (z : α) {xs : List α} (hl : xs.length = n) (he : ∀ i, i < n → f i = xs.getD i z) : OR th hs hc tr rs rc sv ct w base base (.slice (some ⟨g, 0, none⟩) n n) xs := by
  refine ⟨h.head.og hf h0 hg hn hl z he, fun x hx => ?_, ?_⟩
  · obtain ⟨i, hi, rfl⟩ := List.getElem_of_mem hx
    have := h.rows i (by omega)
    rw [he i (by omega)] at this
    simpa [List.getD_eq_getElem?_getD, hi] using this
  · rw [List.pairwise_iff_getElem]
    intro i j hi hj hij k hk
    have := h.apart i j (by omega) (by omega) (by omega) k
    rw [he i (by omega), he j (by omega)] at this
    simp only [List.getD_eq_getElem?_getD, List.getElem?_eq_getElem hi, List.getElem?_eq_getElem hj, Option.getD_some] at this
    exact this hk
end
end Go.Proofs.YtngdgogjlpjjpaeGreat

namespace Go.Proofs.YtngdgogjlpjjpaeGreat
open Go.RowKit
set_option linter.unusedVariables false
set_option linter.unusedSimpArgs false
set_option maxRecDepth 100000

set_option maxHeartbeats 1000000 in
theorem toTarget_any (x y z : Int) (w : World) :
    Calls Tryz.prog 30 #[.agg #[.int .i64 x, .int .i64 y, .int .i64 z]] w fun e w' => e = .returned (.agg #[.int .i64 x, .int .i64 y, .int .i64 z]) ∧ Below w.heap.size w w' := by
  go_enter Tryz.func30, Tryz.ntmps30
  go_wp2
  refine bodyPost_ret (v := .agg #[.int .i64 x, .int .i64 y, .int .i64 z]) (by simp [results, Tryz.results30, go_sem]) rfl ⟨rfl, ?_⟩
  exact ((((Below.refl _ _).alloc (Nat.le_refl _) _).alloc (by simp) _).alloc (by simp; omega) _)
theorem clG_len : ∀ x : Tg, (clG x).length = 3 := fun x => rfl

set_option maxHeartbeats 2000000 in
theorem toTargetS_any (a : Option Addr) (n cap : Nat) (zs : List Tg) (w : World) (h : TgS w a n cap zs) (hn : n ≤ 1048576) :
    Calls Tryz.prog 141 #[.slice a n cap] w fun e w' => e = .returned (.slice (some ⟨w.heap.size, 0, none⟩) n n) ∧ OG 71 3 clG w' w.heap.size (.slice (some ⟨w.heap.size, 0, none⟩) n n) zs ∧ Below w.heap.size w w' := by
  obtain ⟨i0, hi, hz0, hz1, hz2⟩ := info_parts infoG
  have hl := h.1
  go_enter Tryz.func141, Tryz.ntmps141
  go_wp2_with (at_make; refine wpList_make_full _ rfl _ _ 189 rfl w.heap.size 71 i0 (.agg #[.int .i64 0, .int .i64 0, .int .i64 0]) 3 Tryz.underlying189 hi hz0 hz1 .i64 .i64 _ _ n rfl rfl rfl rfl (by rw [hz2]; omega) (by unfold maxLen; omega) (Nat.le_refl _) ?_; intro w1 hown hgr)
  have HR0 := hide (And.intro (rowF_made (f := clG) zT (.agg #[.int .i64 0, .int .i64 0, .int .i64 0]) rfl rfl hown) (below_grown hgr))
  clear hown hgr hi hz0 hz1 hz2
  go_loopw [4] (fun i wr => ∃ (m : Nat) (F : Nat → Tg), m ≤ n ∧ i = .int .i64 m ∧ RowF 71 3 clG wr w.heap.size n F ∧ (∀ i, i < m → F i = zs.getD i zT) ∧ Below w.heap.size w wr) (fun i _ => n - (intOf i).toNat)
  case atStart => exact ⟨0, _, Nat.zero_le _, rfl, HR0.out.1, fun i hi => absurd hi (by omega), HR0.out.2⟩
  case round =>
    obtain ⟨m, F, hm, rfl, R, hF, hB⟩ := hrel
    clear HR0
    by_cases hlt : m < n
    · have hlt' : (m : Int) < (n : Int) := by omega
      obtain ⟨b, off, rfl, y0, y1, y2⟩ := (h.below hB).at m hlt
      have HFIN := hide (fun (W : World) (hW : Below wr.heap.size wr W) => show RowF 71 3 clG (((W.setCell ⟨w.heap.size, m * 3, none⟩ (.int .i64 (zs.getD m zT).1)).setCell ⟨w.heap.size, m * 3 + 1, none⟩ (.int .i64 (zs.getD m zT).2.1)).setCell ⟨w.heap.size, m * 3 + 2, none⟩ (.int .i64 (zs.getD m zT).2.2)) w.heap.size n (fun i => if i = m then zs.getD m zT else F i) ∧ Below w.heap.size w (((W.setCell ⟨w.heap.size, m * 3, none⟩ (.int .i64 (zs.getD m zT).1)).setCell ⟨w.heap.size, m * 3 + 1, none⟩ (.int .i64 (zs.getD m zT).2.1)).setCell ⟨w.heap.size, m * 3 + 2, none⟩ (.int .i64 (zs.getD m zT).2.2)) from
        ⟨(R.below hW).set3 m hlt _ _ _ _ rfl, (((hB.trans (hW.mono hB.size)).setCell (p := ⟨w.heap.size, m * 3, none⟩) (Nat.le_refl _) _).setCell (p := ⟨w.heap.size, m * 3 + 1, none⟩) (Nat.le_refl _) _).setCell (p := ⟨w.heap.size, m * 3 + 2, none⟩) (Nat.le_refl _) _⟩)
      have HCE := hide (fun (W : World) (hW : Below wr.heap.size wr W) => show (∃ u, W.cell? ⟨w.heap.size, m * 3, none⟩ = some u) ∧ (∃ u, W.cell? ⟨w.heap.size, m * 3 + 1, none⟩ = some u) ∧ (∃ u, W.cell? ⟨w.heap.size, m * 3 + 2, none⟩ = some u) ∧ ∀ i, W.frozen? ⟨w.heap.size, i, none⟩ = false from
        ⟨⟨_, (R.below hW).cell clG_len m 0 hlt (by omega) _ rfl⟩, ⟨_, (R.below hW).cell clG_len m 1 hlt (by omega) _ rfl⟩, ⟨_, (R.below hW).cell clG_len m 2 hlt (by omega) _ rfl⟩, by obtain ⟨cs, hk⟩ := (R.below hW).blk; exact hk.frozen⟩)
      have HF2 := hide (show ∀ i, i < m + 1 → (if i = m then zs.getD m zT else F i) = zs.getD i zT from fun i hi => by
        by_cases e : i = m
        · rw [if_pos e, e]
        · rw [if_neg e]; exact hF i (by omega))
      clear R hB hF
      generalize zs.getD m zT = x at *
      obtain ⟨x0, x1, x2⟩ := x
      dsimp only at y0 y1 y2
      go_wp2_with fail
      refine (toTarget_any x0 x1 x2 _).mono ?_
      rintro e w2 ⟨rfl, hb2⟩
      obtain ⟨⟨u0, p0⟩, ⟨u1, p1⟩, ⟨u2, p2⟩, pf⟩ := HCE.out w2 hb2
      have HX := hide (HFIN.out w2 hb2)
      clear HFIN HCE y0 y1 y2 hb2
      go_wp2
      go_roundw
      case rel => exact ⟨m + 1, _, by omega, by go_num, HX.out.1, HF2.out, HX.out.2⟩
      case measure => simp [intOf]; omega
    · have e : Hid (m = n) := by show m = n; omega
      have HX := hide (And.intro R hB)
      clear R hB
      go_wp2
      go_ret
      exact ⟨rfl, HX.out.1.og clG_len (by omega) (Nat.le_refl _) h.2.1 hl zT (fun i hi => hF i (by rw [e.out]; exact hi)), HX.out.2⟩
theorem clTB_len : ∀ x : TB, (clTB x).length = 1 := fun x => rfl
abbrev HTg := HR 189 1 clTB 71 3 clG svT ctT
/-- a row that was copied -/
def cpT (g : Nat) (x : TB) : TB := (x.1, some ⟨g, 0, none⟩, x.1.length)

set_option maxHeartbeats 2000000 in
theorem toTargetSS_any (a : Option Addr) (n cap : Nat) (ts : List TB) (w : World) (h : TsS w a n cap ts) (hn : n ≤ 1048576) (hr : ∀ i, i < n → (ts.getD i zTB).1.length ≤ 1048576) :
    Calls Tryz.prog 55 #[.slice a n cap] w fun e w' => ∃ ts', ts'.map (fun x => x.1) = ts.map (fun x => x.1) ∧ e = .returned (.slice (some ⟨w.heap.size, 0, none⟩) n n) ∧ OTg w' w.heap.size w.heap.size (.slice (some ⟨w.heap.size, 0, none⟩) n n) ts' ∧ Below w.heap.size w w' := by
  obtain ⟨i0, hi, hz0, hz1, hz2⟩ := info_parts infoTB
  have hl := h.1
  go_enter Tryz.func55, Tryz.ntmps55
  go_wp2_with (at_make; refine wpList_make_full _ rfl _ _ 34 rfl w.heap.size 189 i0 (.slice none 0 0) 1 Tryz.underlying34 hi hz0 hz1 .i64 .i64 _ _ n rfl rfl rfl rfl (by rw [hz2]; omega) (by unfold maxLen; omega) (Nat.le_refl _) ?_; intro w1 hown hgr)
  have HR0 := hide (And.intro (show HTg w1 w.heap.size w.heap.size n (fun _ => zTB) from ⟨rowF_made (f := clTB) zTB (.slice none 0 0) rfl rfl hown, fun i hi => og_nil _ _ _ _ _, fun i j _ _ _ k hk => by simp [svT, zTB, Value.ownBlock] at hk⟩) (below_grown hgr))
  clear hown hgr hi hz0 hz1 hz2
  go_loopw [4] (fun i wr => ∃ (m : Nat) (F : Nat → TB), m ≤ n ∧ i = .int .i64 m ∧ HTg wr w.heap.size w.heap.size n F ∧ (∀ i, i < m → (F i).1 = (ts.getD i zTB).1) ∧ Below w.heap.size w wr) (fun i _ => n - (intOf i).toNat)
  case atStart => exact ⟨0, _, Nat.zero_le _, rfl, HR0.out.1, fun i hi => absurd hi (by omega), HR0.out.2⟩
  case round =>
    obtain ⟨m, F, hm, rfl, R, hF, hB⟩ := hrel
    clear HR0
    by_cases hlt : m < n
    · have hlt' : (m : Int) < (n : Int) := by omega
      obtain ⟨b, off, rfl, y0⟩ := (h.below hB).at m hlt
      have hrow := (h.below hB).2.2.2.1 m hlt
      have HTS := hide (toTargetS_any _ _ _ _ wr hrow (hr m hlt))
      have HFIN := hide (fun (W : World) (hW : Below wr.heap.size wr W) (O : OG 71 3 clG W wr.heap.size (.slice (some ⟨wr.heap.size, 0, none⟩) (ts.getD m zTB).1.length (ts.getD m zTB).1.length) (ts.getD m zTB).1) => show HTg (W.setCell ⟨w.heap.size, m, none⟩ (.slice (some ⟨wr.heap.size, 0, none⟩) (ts.getD m zTB).1.length (ts.getD m zTB).1.length)) w.heap.size w.heap.size n (fun i => if i = m then cpT wr.heap.size (ts.getD m zTB) else F i) ∧ Below w.heap.size w (W.setCell ⟨w.heap.size, m, none⟩ (.slice (some ⟨wr.heap.size, 0, none⟩) (ts.getD m zTB).1.length (ts.getD m zTB).1.length)) from
        ⟨(R.below hW).put (by decide) hlt ((R.below hW).head.set1 m hlt _ _ rfl) (turn_set _ _ _ _) (O.mono hB.size) (fun i hi _ k hk e => by
          have h1 := ((R.rows i hi).lt k hk).2
          simp [svT, cpT, Value.ownBlock] at e
          omega), (hB.trans (hW.mono hB.size)).setCell (p := ⟨w.heap.size, m, none⟩) (Nat.le_refl _) _⟩)
      have HCE := hide (fun (W : World) (hW : Below wr.heap.size wr W) => show (∃ u, W.cell? ⟨w.heap.size, m, none⟩ = some u) ∧ ∀ i, W.frozen? ⟨w.heap.size, i, none⟩ = false from
        ⟨⟨_, by have := (R.below hW).head.cell clTB_len m 0 hlt (by omega) _ rfl; simpa using this⟩, by obtain ⟨cs, hk⟩ := (R.below hW).head.blk; exact hk.frozen⟩)
      have HF2 := hide (show ∀ i, i < m + 1 → (if i = m then cpT wr.heap.size (ts.getD m zTB) else F i).1 = (ts.getD i zTB).1 from fun i hi => by
        by_cases e : i = m
        · rw [if_pos e, e]; rfl
        · rw [if_neg e]; exact hF i (by omega))
      clear R hB hF hrow
      unfold svT at y0
      generalize ts.getD m zTB = x at *
      obtain ⟨x0, x1, x2⟩ := x
      dsimp only at y0 HTS HFIN
      go_wp2_with fail
      refine HTS.out.mono ?_
      rintro e w2 ⟨rfl, O2, hb2⟩
      obtain ⟨⟨u0, p0⟩, pf⟩ := HCE.out w2 hb2
      have HX := hide (HFIN.out w2 hb2 O2)
      clear HFIN HCE y0 hb2 O2 HTS
      go_wp2
      go_roundw
      case rel => exact ⟨m + 1, _, by omega, by go_num, HX.out.1, HF2.out, HX.out.2⟩
      case measure => simp [intOf]; omega
    · have e : Hid (m = n) := by show m = n; omega
      have HX := hide (And.intro R hB)
      clear R hB
      go_wp2
      go_ret
      refine ⟨(List.range n).map F, ?_, rfl, HX.out.1.or clTB_len (by omega) (Nat.le_refl _) h.2.1 zTB (by simp) (fun i hi => by simp [List.getD_eq_getElem?_getD, hi]), HX.out.2⟩
      apply List.ext_getElem
      · simp [hl]
      · intro i h1 h2
        simp at h1 h2
        have := hF i (by rw [e.out]; exact h1)
        simpa [List.getD_eq_getElem?_getD, h2] using this
end Go.Proofs.YtngdgogjlpjjpaeGreat
