import Derived.Test.YtngdgogjlpjjpaeGreatGa02
import Derived.Test.YtngdgogjlpjjpaeGreatGa00
import Derived.Test.YtngdgogjlpjjpaeGreatGd03
import Derived.Test.YtngdgogjlpjjpaeGreatGd04
import Derived.Test.YtngdgogjlpjjpaeGreatGa34
import Derived.Test.YtngdgogjlpjjpaeGreatGa35
namespace Go.Proofs.YtngdgogjlpjjpaeGreat
open Go.RowKit Classical
set_option linter.unusedVariables false

/-- the marks: k, k + 1, .. as bytes, n of them -/
def marks (k n : Nat) : List Int := (List.range n).map fun i => ((k + i : Nat) : Int) % 256
theorem marks_len (k n : Nat) : (marks k n).length = n := by simp [marks]
def mixed (zs : List Int) (k m : Nat) : List Int := (List.range zs.length).map fun i => if i < m then ((k + i : Nat) : Int) % 256 else zs.getD i 0
theorem mixed_zero (zs : List Int) (k : Nat) : mixed zs k 0 = zs := by
  apply List.ext_getElem
  · simp [mixed]
  · intro i h1 h2; simp [mixed, h2]
theorem mixed_all (zs : List Int) (k : Nat) : mixed zs k zs.length = marks k zs.length := by
  apply List.ext_getElem
  · simp [mixed, marks]
  · intro i h1 h2
    simp [marks] at h2
    simp [mixed, marks, h2]
theorem mixed_len (zs : List Int) (k m : Nat) : (mixed zs k m).length = zs.length := by simp [mixed]
theorem mixed_set (zs : List Int) (k m : Nat) (h : m < zs.length) : (mixed zs k m).set m (((k + m : Nat) : Int) % 256) = mixed zs k (m + 1) := by
  apply List.ext_getElem
  · simp [mixed]
  · intro i h1 h2
    simp only [mixed, List.getElem_set, List.getElem_map, List.getElem_range]
    by_cases hik : m = i
    · subst hik; simp
    · by_cases h3 : i < m
      · simp [hik, h3, show i < m + 1 by omega]
      · simp [hik, h3, show ¬ i < m + 1 by omega]

set_option maxHeartbeats 1000000 in
theorem markByteS_some (g n cap base : Nat) (zs : List Int) (k : Nat) (w : World) (h : OB w base (.slice (some ⟨g, 0, none⟩) n cap) zs) (hn : n ≤ 2097152) (hk : k ≤ 4194304) :
    Calls Tryz.prog 92 #[.slice (some ⟨g, 0, none⟩) n cap, .int .i64 k] w fun e w' => e = .returned (.int .i64 ((k + n : Nat) : Int)) ∧ OB w' base (.slice (some ⟨g, 0, none⟩) n cap) (marks k n) ∧ Turn (fun j => j = g) w w' := by
  have hl := h.bs.1
  go_enter Tryz.func92, Tryz.ntmps92
  go_wp2
  go_loopw [1, 5] (fun x i wr => ∃ m : Nat, m ≤ n ∧ i = .int .i64 m ∧ x = .int .i64 ((k + m : Nat) : Int) ∧ OB wr base (.slice (some ⟨g, 0, none⟩) n cap) (mixed zs k m) ∧ Turn (fun j => j = g) w wr) (fun _ i _ => n - (intOf i).toNat)
  case atStart => exact ⟨0, Nat.zero_le _, rfl, rfl, by rw [mixed_zero]; exact h, Turn.refl _ _⟩
  case round =>
    obtain ⟨m, hm, rfl, rfl, hO, hT⟩ := hrel
    by_cases hlt : m < n
    · have hlt' : (m : Int) < (n : Int) := by omega
      obtain ⟨u, hu⟩ := (ob_room hO).cell m hlt
      have hf := (ob_room hO).frozen m
      have hset := ob_set hO m hlt (((k + m : Nat) : Int) % 256) (by omega)
      rw [mixed_set zs k m (by omega)] at hset
      have hT2 : Turn (fun j => j = g) w (wr.setCell ⟨g, m, none⟩ (.int .u8 (((k + m : Nat) : Int) % 256))) :=
        hT.trans ⟨rfl, rfl, rfl, by rw [size_setCell]; exact Nat.le_refl _, fun j hj hs => heap_setCell_other _ _ _ _ hs⟩
      have HO := hide hset
      have HT := hide hT2
      clear hset hT2 hO hT
      obtain ⟨K, hK⟩ : ∃ K : Int, K = ((k + m : Nat) : Int) := ⟨_, rfl⟩
      have hK0 : 0 ≤ K := by omega
      have hK1 : K ≤ 8388608 := by omega
      have HK := hide (show K + 1 = ((k + (m + 1) : Nat) : Int) by omega)
      rw [← hK] at HO HT ⊢
      clear hK
      go_wp2
      go_roundw
      case rel => exact ⟨m + 1, by omega, by go_num, by rw [HK.out], HO.out, HT.out⟩
      case measure => simp [intOf]; omega
    · have e : Hid (m = n) := by show m = n; omega
      go_wp2
      go_ret
      exact ⟨ret_int (by rw [e.out]), by rw [e.out, ← hl, mixed_all] at hO; rw [hl] at hO; exact hO, hT⟩
end Go.Proofs.YtngdgogjlpjjpaeGreat

namespace Go.Proofs.YtngdgogjlpjjpaeGreat
open Go.RowKit Classical
set_option linter.unusedVariables false

set_option maxHeartbeats 1000000 in
theorem markByteS_zero (a : Option Addr) (cap k : Nat) (w : World) :
    Calls Tryz.prog 92 #[.slice a 0 cap, .int .i64 k] w fun e w' => e = .returned (.int .i64 k) ∧ w = w' := by
  go_enter Tryz.func92, Tryz.ntmps92
  go_wp2
  go_loop [1, 5] (fun x i => i = .int .i64 0 ∧ x = .int .i64 k) (fun _ _ => 0)
  case atStart => exact ⟨rfl, rfl⟩
  case round =>
    obtain ⟨rfl, rfl⟩ := hrel
    go_wp2
    go_ret
    exact ⟨rfl, rfl⟩

theorem markByteS_any (a : Option Addr) (n cap base : Nat) (zs : List Int) (k : Nat) (w : World) (h : OB w base (.slice a n cap) zs) (hn : n ≤ 2097152) (hk : k ≤ 4194304) :
    Calls Tryz.prog 92 #[.slice a n cap, .int .i64 k] w fun e w' => e = .returned (.int .i64 ((k + n : Nat) : Int)) ∧ OB w' base (.slice a n cap) (marks k n) ∧ Turn (fun j => (Value.slice a n cap).ownBlock = some j) w w' := by
  by_cases h0 : n = 0
  · subst h0
    refine (markByteS_zero a cap k w).mono fun e w' he => ?_
    obtain ⟨rfl, rfl⟩ := he
    have hz : zs = [] := List.eq_nil_of_length_eq_zero h.bs.1
    subst hz
    exact ⟨rfl, h, Turn.refl _ _⟩
  · obtain ⟨g, rfl⟩ : ∃ g, a = some ⟨g, 0, none⟩ := by
      obtain ⟨hl, ⟨h0', _⟩ | ⟨g, cap', cur, hv, _⟩⟩ := h.1
      · simp at h0'; exact absurd h0'.2.1 h0
      · simp at hv; exact ⟨g, hv.1⟩
    refine (markByteS_some g n cap base zs k w h hn hk).mono fun e w' he => ⟨he.1, he.2.1, he.2.2.mono ?_⟩
    intro j hj
    subst hj
    rfl

theorem marks_getD (k n m : Nat) (h : m < n) : (marks k n).getD m 0 = ((k + m : Nat) : Int) % 256 := by simp [marks, List.getD_eq_getElem?_getD, h]

set_option maxHeartbeats 1000000 in
theorem heldByteS_any (a : Option Addr) (n cap : Nat) (k : Nat) (w : World) (h : BS w a n cap (marks k n)) (hn : n ≤ 2097152) (hk : k ≤ 4194304) :
    Calls Tryz.prog 97 #[.slice a n cap, .int .i64 k] w fun e w' => e = .returned (.int .i64 ((k + n : Nat) : Int)) ∧ w = w' := by
  go_enter Tryz.func97, Tryz.ntmps97
  go_wp2
  go_loop [1, 5] (fun x i => ∃ m : Nat, m ≤ n ∧ i = .int .i64 m ∧ x = .int .i64 ((k + m : Nat) : Int)) (fun _ i => n - (intOf i).toNat)
  case atStart => exact ⟨0, Nat.zero_le _, rfl, rfl⟩
  case round =>
    obtain ⟨m, hm, rfl, rfl⟩ := hrel
    by_cases hlt : m < n
    · have hlt' : (m : Int) < (n : Int) := by omega
      obtain ⟨b, off, rfl⟩ := h.some (by omega)
      have hc := h.at m hlt
      rw [marks_getD k n m hlt] at hc
      obtain ⟨K, hK⟩ : ∃ K : Int, K = ((k + m : Nat) : Int) := ⟨_, rfl⟩
      have hK0 : 0 ≤ K := by omega
      have hK1 : K ≤ 8388608 := by omega
      have HK := hide (show K + 1 = ((k + (m + 1) : Nat) : Int) by omega)
      rw [← hK] at hc ⊢
      have hne : (K % 256 != K % 256) = false := by simp
      clear hK
      go_wp2
      go_round
      case rel => exact ⟨m + 1, by omega, by go_num, by rw [HK.out]⟩
      case measure => simp [intOf]; omega
    · have e : Hid (m = n) := by show m = n; omega
      go_wp2
      go_ret
      exact ⟨ret_int (by rw [e.out]), rfl⟩

/-- the blocks of three slices -/
def Blks (v1 v2 v3 : Value) (j : Nat) : Prop := v1.ownBlock = some j ∨ v2.ownBlock = some j ∨ v3.ownBlock = some j

set_option maxHeartbeats 1000000 in
theorem markMem_any (a1 a2 a3 : Option Addr) (n1 d1 n2 d2 n3 d3 base : Nat) (x1 x2 x3 : List Int) (w : World) (h : Own3 w base (.slice a1 n1 d1) (.slice a2 n2 d2) (.slice a3 n3 d3) x1 x2 x3) (hn : n1 + n2 + n3 ≤ 2097152) :
    Calls Tryz.prog 27 #[.agg #[.slice a1 n1 d1, .slice a2 n2 d2, .slice a3 n3 d3], .int .i64 1] w fun e w' => e = .returned (.int .i64 ((1 + n1 + n2 + n3 : Nat) : Int)) ∧ Own3 w' base (.slice a1 n1 d1) (.slice a2 n2 d2) (.slice a3 n3 d3) (marks 1 n1) (marks (1 + n1) n2) (marks (1 + n1 + n2) n3) ∧ Turn (Blks (.slice a1 n1 d1) (.slice a2 n2 d2) (.slice a3 n3 d3)) w w' := by
  have hlt : ∀ j, Blks (.slice a1 n1 d1) (.slice a2 n2 d2) (.slice a3 n3 d3) j → j < w.heap.size := by
    intro j hj
    rcases hj with e | e | e
    · exact (h.1.lt j e).2
    · exact (h.2.1.lt j e).2
    · exact (h.2.2.1.lt j e).2
  have kb := Blk.new w #[.slice a1 n1 d1, .slice a2 n2 d2, .slice a3 n3 d3] 50
  have h' := own3_alloc h (.cells #[.slice a1 n1 d1, .slice a2 n2 d2, .slice a3 n3 d3] 50)
  have T0 : Turn (Blks (.slice a1 n1 d1) (.slice a2 n2 d2) (.slice a3 n3 d3)) w (w.alloc (.cells #[.slice a1 n1 d1, .slice a2 n2 d2, .slice a3 n3 d3] 50)) := turn_alloc w _
  obtain ⟨o12, o13, o23⟩ := h.2.2.2
  go_enter Tryz.func27, Tryz.ntmps27
  go_wp2_with fail
  refine (markByteS_any a1 n1 d1 base x1 1 _ h'.1 (by omega) (by omega)).mono ?_
  rintro e w1 ⟨rfl, p1, t1⟩
  have kb1 := turn_blk t1 kb (fun e => by have := hlt _ (Or.inl e); omega)
  have p2 := turn_ob t1 h'.2.1 (fun k hk e => Nat.lt_irrefl _ (o12 k k e hk))
  have p3 := turn_ob t1 h'.2.2.1 (fun k hk e => Nat.lt_irrefl _ (o13 k k e hk))
  have T1 := T0.trans (t1.mono (fun k hk => Or.inl hk))
  clear t1 kb h'
  obtain ⟨q1, q2, q3, q4⟩ := kb1.three
  go_wp2_with fail
  refine (markByteS_any a2 n2 d2 base x2 (1 + n1) _ p2 (by omega) (by omega)).mono ?_
  rintro e w2 ⟨rfl, p2, t2⟩
  have kb2 := turn_blk t2 kb1 (fun e => by have := hlt _ (Or.inr (Or.inl e)); omega)
  have p1 := turn_ob t2 p1 (fun k hk e => Nat.lt_irrefl _ (o12 k k hk e))
  have p3 := turn_ob t2 p3 (fun k hk e => Nat.lt_irrefl _ (o23 k k e hk))
  have T2 := T1.trans (t2.mono (fun k hk => Or.inr (Or.inl hk)))
  clear t2 kb1 q1 q2 q3 q4
  obtain ⟨q1, q2, q3, q4⟩ := kb2.three
  go_wp2_with fail
  refine (markByteS_any a3 n3 d3 base x3 (1 + n1 + n2) _ p3 (by omega) (by omega)).mono ?_
  rintro e w3 ⟨rfl, p3, t3⟩
  have p1 := turn_ob t3 p1 (fun k hk e => Nat.lt_irrefl _ (o13 k k hk e))
  have p2 := turn_ob t3 p2 (fun k hk e => Nat.lt_irrefl _ (o23 k k hk e))
  have T3 := T2.trans (t3.mono (fun k hk => Or.inr (Or.inr hk)))
  go_wp2
  go_ret
  exact ⟨rfl, ⟨p1, p2, p3, o12, o13, o23⟩, T3⟩

set_option maxHeartbeats 1000000 in
theorem heldMem_any (a1 a2 a3 : Option Addr) (n1 d1 n2 d2 n3 d3 : Nat) (w : World) (h1 : BS w a1 n1 d1 (marks 1 n1)) (h2 : BS w a2 n2 d2 (marks (1 + n1) n2)) (h3 : BS w a3 n3 d3 (marks (1 + n1 + n2) n3)) (hn : n1 + n2 + n3 ≤ 2097152) :
    Calls Tryz.prog 28 #[.agg #[.slice a1 n1 d1, .slice a2 n2 d2, .slice a3 n3 d3], .int .i64 1] w fun e w' => e = .returned (.int .i64 ((1 + n1 + n2 + n3 : Nat) : Int)) ∧ Below w.heap.size w w' := by
  have hB0 : Below w.heap.size w (w.alloc (.cells #[.slice a1 n1 d1, .slice a2 n2 d2, .slice a3 n3 d3] 50)) := (Below.refl _ _).alloc (Nat.le_refl _) _
  go_enter Tryz.func28, Tryz.ntmps28
  go_wp2_with fail
  refine (heldByteS_any a1 n1 d1 1 _ (h1.below hB0) (by omega) (by omega)).mono ?_
  rintro e w1 ⟨rfl, rfl⟩
  have e1 : (0 : Int) ≤ ((1 + n1 : Nat) : Int) := by omega
  go_wp2_with fail
  refine (heldByteS_any a2 n2 d2 (1 + n1) _ (h2.below hB0) (by omega) (by omega)).mono ?_
  rintro e w1 ⟨rfl, rfl⟩
  have e2 : (0 : Int) ≤ ((1 + n1 + n2 : Nat) : Int) := by omega
  go_wp2_with fail
  refine (heldByteS_any a3 n3 d3 (1 + n1 + n2) _ (h3.below hB0) (by omega) (by omega)).mono ?_
  rintro e w1 ⟨rfl, rfl⟩
  have e3 : (0 : Int) ≤ ((1 + n1 + n2 + n3 : Nat) : Int) := by omega
  go_wp2
  go_ret
  exact ⟨rfl, hB0⟩
end Go.Proofs.YtngdgogjlpjjpaeGreat

namespace Go.Proofs.YtngdgogjlpjjpaeGreat
open Go.RowKit Classical
set_option linter.unusedVariables false
set_option linter.unusedSimpArgs false
set_option maxRecDepth 100000

section
variable {W W' : World} {base : Nat} {v1 v2 v3 : Value} {x1 x2 x3 : List Int}
theorem OM.below (h : OM W base v1 v2 v3 x1 x2 x3) (hb : Below W.heap.size W W') : OM W' base v1 v2 v3 x1 x2 x3 := ⟨h.o1.below hb, h.o2.below hb, h.o3.below hb, h.a12, h.a13, h.a23⟩
theorem OM.mono {base' : Nat} (h : OM W base v1 v2 v3 x1 x2 x3) (hb : base' ≤ base) : OM W base' v1 v2 v3 x1 x2 x3 := ⟨h.o1.mono hb, h.o2.mono hb, h.o3.mono hb, h.a12, h.a13, h.a23⟩
theorem OM.lt (h : OM W base v1 v2 v3 x1 x2 x3) {j : Nat} (hj : Blks v1 v2 v3 j) : base ≤ j ∧ j < W.heap.size := by
  rcases hj with e | e | e
  · exact h.o1.lt j e
  · exact h.o2.lt j e
  · exact h.o3.lt j e
theorem OM.kept {S : Nat → Prop} (h : OM W base v1 v2 v3 x1 x2 x3) (t : Turn S W W') (hs : ∀ j, Blks v1 v2 v3 j → ¬ S j) : OM W' base v1 v2 v3 x1 x2 x3 := ⟨turn_ob t h.o1 (fun k hk => hs k (.inl hk)), turn_ob t h.o2 (fun k hk => hs k (.inr (.inl hk))), turn_ob t h.o3 (fun k hk => hs k (.inr (.inr hk))), h.a12, h.a13, h.a23⟩
end
set_option maxHeartbeats 1000000 in
theorem markMem_om (a1 a2 a3 : Option Addr) (n1 d1 n2 d2 n3 d3 base : Nat) (x1 x2 x3 : List Int) (w : World) (h : OM w base (.slice a1 n1 d1) (.slice a2 n2 d2) (.slice a3 n3 d3) x1 x2 x3) (hn : n1 + n2 + n3 ≤ 2097152) :
    Calls Tryz.prog 27 #[.agg #[.slice a1 n1 d1, .slice a2 n2 d2, .slice a3 n3 d3], .int .i64 1] w fun e w' => e = .returned (.int .i64 ((1 + n1 + n2 + n3 : Nat) : Int)) ∧ OM w' base (.slice a1 n1 d1) (.slice a2 n2 d2) (.slice a3 n3 d3) (marks 1 n1) (marks (1 + n1) n2) (marks (1 + n1 + n2) n3) ∧ Turn (Blks (.slice a1 n1 d1) (.slice a2 n2 d2) (.slice a3 n3 d3)) w w' := by
  have hlt : ∀ j, Blks (.slice a1 n1 d1) (.slice a2 n2 d2) (.slice a3 n3 d3) j → j < w.heap.size := fun j hj => (h.lt hj).2
  have kb := Blk.new w #[.slice a1 n1 d1, .slice a2 n2 d2, .slice a3 n3 d3] 50
  have bb : Below w.heap.size w (w.alloc (.cells #[.slice a1 n1 d1, .slice a2 n2 d2, .slice a3 n3 d3] 50)) := (Below.refl _ _).alloc (Nat.le_refl _) _
  have h' := h.below bb
  have T0 : Turn (Blks (.slice a1 n1 d1) (.slice a2 n2 d2) (.slice a3 n3 d3)) w (w.alloc (.cells #[.slice a1 n1 d1, .slice a2 n2 d2, .slice a3 n3 d3] 50)) := turn_below bb
  obtain ⟨_, _, _, o12, o13, o23⟩ := h
  clear bb
  go_enter Tryz.func27, Tryz.ntmps27
  go_wp2_with fail
  refine (markByteS_any a1 n1 d1 base x1 1 _ h'.o1 (by omega) (by omega)).mono ?_
  rintro e w1 ⟨rfl, p1, t1⟩
  have kb1 := turn_blk t1 kb (fun e => by have := hlt _ (Or.inl e); omega)
  have p2 := turn_ob t1 h'.o2 (fun k hk e => o12 k e hk)
  have p3 := turn_ob t1 h'.o3 (fun k hk e => o13 k e hk)
  have T1 := T0.trans (t1.mono (fun k hk => Or.inl hk))
  clear t1 kb h'
  obtain ⟨q1, q2, q3, q4⟩ := kb1.three
  go_wp2_with fail
  refine (markByteS_any a2 n2 d2 base x2 (1 + n1) _ p2 (by omega) (by omega)).mono ?_
  rintro e w2 ⟨rfl, p2, t2⟩
  have kb2 := turn_blk t2 kb1 (fun e => by have := hlt _ (Or.inr (Or.inl e)); omega)
  have p1 := turn_ob t2 p1 (fun k hk e => o12 k hk e)
  have p3 := turn_ob t2 p3 (fun k hk e => o23 k e hk)
  have T2 := T1.trans (t2.mono (fun k hk => Or.inr (Or.inl hk)))
  clear t2 kb1 q1 q2 q3 q4
  obtain ⟨q1, q2, q3, q4⟩ := kb2.three
  go_wp2_with fail
  refine (markByteS_any a3 n3 d3 base x3 (1 + n1 + n2) _ p3 (by omega) (by omega)).mono ?_
  rintro e w3 ⟨rfl, p3, t3⟩
  have p1 := turn_ob t3 p1 (fun k hk e => o13 k hk e)
  have p2 := turn_ob t3 p2 (fun k hk e => o23 k hk e)
  have T3 := T2.trans (t3.mono (fun k hk => Or.inr (Or.inr hk)))
  go_wp2
  go_ret
  exact ⟨rfl, ⟨p1, p2, p3, o12, o13, o23⟩, T3⟩
end Go.Proofs.YtngdgogjlpjjpaeGreat

namespace Go.Proofs.YtngdgogjlpjjpaeGreat
open Go.RowKit Classical
set_option linter.unusedVariables false
set_option linter.unusedSimpArgs false
set_option maxRecDepth 100000

theorem cutI {S F : Nat → Option Addr → Nat → List PB → Option Addr → Nat → Option Addr → Nat → List TB → Nat → Option Addr → Nat → Nat → Option Addr → Nat → Nat → Option Addr → Nat → Nat → World → Prop} {G : Prop} (main : (∀ gm b0 d0 ys b2 d2 b5 d5 us gb p1 n1 q1 p2 n2 q2 p3 n3 q3 W, F gm b0 d0 ys b2 d2 b5 d5 us gb p1 n1 q1 p2 n2 q2 p3 n3 q3 W → S gm b0 d0 ys b2 d2 b5 d5 us gb p1 n1 q1 p2 n2 q2 p3 n3 q3 W) → G) (pf : ∀ gm b0 d0 ys b2 d2 b5 d5 us gb p1 n1 q1 p2 n2 q2 p3 n3 q3 W, F gm b0 d0 ys b2 d2 b5 d5 us gb p1 n1 q1 p2 n2 q2 p3 n3 q3 W → S gm b0 d0 ys b2 d2 b5 d5 us gb p1 n1 q1 p2 n2 q2 p3 n3 q3 W) : G := main pf
structure Z5 (ps : List PMod) (L : Lay) (W0 X : World) (o : Option Nat) (p1 : Option Addr) (n1 q1 : Nat) (p2 : Option Addr) (n2 q2 : Nat) (p3 : Option Addr) (n3 q3 : Nat) : Prop where
  z : Zb #[.slice none 0 0, .slice none 0 0, .slice none 0 0] 50 W0 X o
  m : ∃ b, W0.heap.size ≤ b ∧ OM X b (.slice p1 n1 q1) (.slice p2 n2 q2) (.slice p3 n3 q3) (imF ps L) (imR ps L) [] ∧ ∀ g, o = some g → g < b
structure Fin6 (ps : List PMod) (L : Lay) (W0 : World) (gb : Nat) (p1 : Option Addr) (n1 q1 : Nat) (p2 : Option Addr) (n2 q2 : Nat) (p3 : Option Addr) (n3 q3 : Nat) (W : World) : Prop where
  b : Below W0.heap.size W0 W
  g : W0.heap.size ≤ gb
  k : Blk W gb #[.slice p1 n1 q1, .slice p2 n2 q2, .slice p3 n3 q3] 50
  m : OM W W0.heap.size (.slice p1 n1 q1) (.slice p2 n2 q2) (.slice p3 n3 q3) (imF ps L) (imR ps L) []
section
variable {ps : List PMod} {L : Lay} {W0 X : World} {gb : Nat} {p1 : Option Addr} {n1 q1 : Nat} {p2 : Option Addr} {n2 q2 : Nat} {p3 : Option Addr} {n3 q3 : Nat}
theorem Z5.fin (h : Z5 ps L W0 X none p1 n1 q1 p2 n2 q2 p3 n3 q3) : Fin6 ps L W0 X.heap.size p1 n1 q1 p2 n2 q2 p3 n3 q3 (X.alloc (.cells #[.slice p1 n1 q1, .slice p2 n2 q2, .slice p3 n3 q3] 50)) := by
  have hb : Below X.heap.size X (X.alloc (.cells #[.slice p1 n1 q1, .slice p2 n2 q2, .slice p3 n3 q3] 50)) := (Below.refl _ _).alloc (Nat.le_refl _) _
  obtain ⟨b, h1, h2, _⟩ := h.m
  exact ⟨h.z.1.trans (hb.mono h.z.1.size), h.z.1.size, Blk.new X _ _, (h2.mono h1).below hb⟩
theorem Z5.fin' (h : Z5 ps L W0 X (some gb) p1 n1 q1 p2 n2 q2 p3 n3 q3) : Fin6 ps L W0 gb p1 n1 q1 p2 n2 q2 p3 n3 q3 (((X.setCell ⟨gb, 0, none⟩ (.slice p1 n1 q1)).setCell ⟨gb, 1, none⟩ (.slice p2 n2 q2)).setCell ⟨gb, 2, none⟩ (.slice p3 n3 q3)) := by
  obtain ⟨hg, hk⟩ := h.z.2 gb rfl
  have T : Turn (fun j => j = gb) X (((X.setCell ⟨gb, 0, none⟩ (.slice p1 n1 q1)).setCell ⟨gb, 1, none⟩ (.slice p2 n2 q2)).setCell ⟨gb, 2, none⟩ (.slice p3 n3 q3)) := ((turn_set _ _ _ _).trans (turn_set _ _ _ _)).trans (turn_set _ _ _ _)
  obtain ⟨b, h1, h2, h3⟩ := h.m
  have hgb := h3 gb rfl
  exact ⟨below_turn h.z.1 T (fun k e => by omega) h.z.1.size, hg, blk_set3 hk, (h2.kept T (fun j hj e => by have := (h2.lt hj).1; omega)).mono h1⟩
end
/-- what must stay: the argument's box, the first answer and its box -/
structure Km (cf : Array Value) (tc : TypeId) (base : Nat) (ps : List PMod) (L : Lay) (w W5 : World) (gb : Nat) (p1 : Option Addr) (n1 q1 : Nat) (p2 : Option Addr) (n2 q2 : Nat) (p3 : Option Addr) (n3 q3 : Nat) (W : World) : Prop where
  be : Below w.heap.size w W
  kc : Blk W w.heap.size cf tc
  kw : Blk W gb #[.slice p1 n1 q1, .slice p2 n2 q2, .slice p3 n3 q3] 50
  mw : OM W base (.slice p1 n1 q1) (.slice p2 n2 q2) (.slice p3 n3 q3) (imF ps L) (imR ps L) []
  m5 : OM W5 base (.slice p1 n1 q1) (.slice p2 n2 q2) (.slice p3 n3 q3) (imF ps L) (imR ps L) []
  n5 : w.heap.size < W5.heap.size ∧ gb < W5.heap.size
  w5 : W5.heap.size ≤ W.heap.size
section
variable {cf : Array Value} {tc : TypeId} {base : Nat} {ps : List PMod} {L : Lay} {w W5 W W' : World} {gb : Nat} {p1 : Option Addr} {n1 q1 : Nat} {p2 : Option Addr} {n2 q2 : Nat} {p3 : Option Addr} {n3 q3 : Nat}
theorem Km.turn {S : Nat → Prop} (h : Km cf tc base ps L w W5 gb p1 n1 q1 p2 n2 q2 p3 n3 q3 W) (t : Turn S W W') (hS : ∀ j, S j → W5.heap.size ≤ j) : Km cf tc base ps L w W5 gb p1 n1 q1 p2 n2 q2 p3 n3 q3 W' :=
  ⟨below_turn h.be t (fun k s => by have := hS k s; have := h.n5.1; omega) h.be.size, turn_blk t h.kc (fun s => by have := hS _ s; have := h.n5.1; omega), turn_blk t h.kw (fun s => by have := hS _ s; have := h.n5.2; omega), h.mw.kept t (fun j hj s => by have := hS _ s; have := (h.m5.lt hj).2; omega), h.m5, h.n5, Nat.le_trans h.w5 t.size⟩
theorem Km.below (h : Km cf tc base ps L w W5 gb p1 n1 q1 p2 n2 q2 p3 n3 q3 W) (hb : Below W.heap.size W W') : Km cf tc base ps L w W5 gb p1 n1 q1 p2 n2 q2 p3 n3 q3 W' := h.turn (S := fun _ => False) (turn_below hb) (fun _ s => absurd s id)
end
end Go.Proofs.YtngdgogjlpjjpaeGreat
