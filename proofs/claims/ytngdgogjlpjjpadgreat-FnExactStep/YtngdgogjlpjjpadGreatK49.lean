import Derived.Test.YtngdgogjlpjjpadGreatK48
import Derived.Test.YtngdgogjlpjjpadGreatK13
import Derived.Test.YtngdgogjlpjjpadGreatK06
import Derived.Orders
import Derived.Below
import Derived.Test.YtngdgogjlpjjpadGreatK09
import Derived.Test.YtngdgogjlpjjpadGreatK32
namespace Go.Proofs.YtngdgogjlpjjpadGreat
open Go.RowKit
set_option linter.unusedVariables false

set_option maxHeartbeats 1000000 in
theorem markByteS_zero (a : Option Addr) (cap k : Nat) (w : World) :
    Calls Tryz.prog 104 #[.slice a 0 cap, .int .i64 k] w fun e w' => e = .returned (.int .i64 k) ∧ w = w' := by
  go_enter Tryz.func104, Tryz.ntmps104
  go_wp2
  go_loop [1, 5] (fun x i => i = .int .i64 0 ∧ x = .int .i64 k) (fun _ _ => 0)
  case atStart => exact ⟨rfl, rfl⟩
  case round =>
    obtain ⟨rfl, rfl⟩ := hrel
    go_wp2
    go_ret
    exact ⟨rfl, rfl⟩

theorem markByteS_any (a : Option Addr) (n cap base : Nat) (zs : List Int) (k : Nat) (w : World) (h : OB w base (.slice a n cap) zs) (hn : n ≤ 2097152) (hk : k ≤ 4194304) :
    Calls Tryz.prog 104 #[.slice a n cap, .int .i64 k] w fun e w' => e = .returned (.int .i64 ((k + n : Nat) : Int)) ∧ OB w' base (.slice a n cap) (marks k n) ∧ Turn (fun j => (Value.slice a n cap).ownBlock = some j) w w' := by
  by_cases h0 : n = 0
  · subst h0
    refine (markByteS_zero a cap k w).mono fun e w' he => ?_
    obtain ⟨rfl, rfl⟩ := he
    have hz : zs = [] := List.eq_nil_of_length_eq_zero h.bs.1
    subst hz
    exact ⟨rfl, h, Turn.refl _ _⟩
  · obtain ⟨g, rfl⟩ : ∃ g, a = some ⟨g, 0, none⟩ := by
      obtain ⟨hl, ⟨h0', _⟩ | ⟨g, cap', cur, hv, _⟩⟩ := h.1
      · simp at h0'; exact absurd h0'.2.1 h0
      · simp at hv; exact ⟨g, hv.1⟩
    refine (markByteS_some g n cap base zs k w h hn hk).mono fun e w' he => ⟨he.1, he.2.1, he.2.2.mono ?_⟩
    intro j hj
    subst hj
    rfl

theorem marks_getD (k n m : Nat) (h : m < n) : (marks k n).getD m 0 = ((k + m : Nat) : Int) % 256 := by simp [marks, List.getD_eq_getElem?_getD, h]

set_option maxHeartbeats 1000000 in
theorem heldByteS_any (a : Option Addr) (n cap : Nat) (k : Nat) (w : World) (h : BS w a n cap (marks k n)) (hn : n ≤ 2097152) (hk : k ≤ 4194304) :
    Calls Tryz.prog 106 #[.slice a n cap, .int .i64 k] w fun e w' => e = .returned (.int .i64 ((k + n : Nat) : Int)) ∧ w = w' := by
  go_enter Tryz.func106, Tryz.ntmps106
  go_wp2
  go_loop [1, 5] (fun x i => ∃ m : Nat, m ≤ n ∧ i = .int .i64 m ∧ x = .int .i64 ((k + m : Nat) : Int)) (fun _ i => n - (intOf i).toNat)
  case atStart => exact ⟨0, Nat.zero_le _, rfl, rfl⟩
  case round =>
    obtain ⟨m, hm, rfl, rfl⟩ := hrel
    by_cases hlt : m < n
    · have hlt' : (m : Int) < (n : Int) := by omega
      obtain ⟨b, off, rfl⟩ := h.some (by omega)
      have hc := h.at m hlt
      rw [marks_getD k n m hlt] at hc
      obtain ⟨K, hK⟩ : ∃ K : Int, K = ((k + m : Nat) : Int) := ⟨_, rfl⟩
      have hK0 : 0 ≤ K := by omega
      have hK1 : K ≤ 8388608 := by omega
      have HK := hide (show K + 1 = ((k + (m + 1) : Nat) : Int) by omega)
      rw [← hK] at hc ⊢
      have hne : (K % 256 != K % 256) = false := by simp
      clear hK
      go_wp2
      go_round
      case rel => exact ⟨m + 1, by omega, by go_num, by rw [HK.out]⟩
      case measure => simp [intOf]; omega
    · have e : Hid (m = n) := by show m = n; omega
      go_wp2
      go_ret
      exact ⟨ret_int (by rw [e.out]), rfl⟩

/-- the blocks of three slices -/
def Blks (v1 v2 v3 : Value) (j : Nat) : Prop := v1.ownBlock = some j ∨ v2.ownBlock = some j ∨ v3.ownBlock = some j

set_option maxHeartbeats 1000000 in
theorem markMem_any (a1 a2 a3 : Option Addr) (n1 d1 n2 d2 n3 d3 base : Nat) (x1 x2 x3 : List Int) (w : World) (h : Own3 w base (.slice a1 n1 d1) (.slice a2 n2 d2) (.slice a3 n3 d3) x1 x2 x3) (hn : n1 + n2 + n3 ≤ 2097152) :
    Calls Tryz.prog 29 #[.agg #[.slice a1 n1 d1, .slice a2 n2 d2, .slice a3 n3 d3], .int .i64 1] w fun e w' => e = .returned (.int .i64 ((1 + n1 + n2 + n3 : Nat) : Int)) ∧ Own3 w' base (.slice a1 n1 d1) (.slice a2 n2 d2) (.slice a3 n3 d3) (marks 1 n1) (marks (1 + n1) n2) (marks (1 + n1 + n2) n3) ∧ Turn (Blks (.slice a1 n1 d1) (.slice a2 n2 d2) (.slice a3 n3 d3)) w w' := by
  have hlt : ∀ j, Blks (.slice a1 n1 d1) (.slice a2 n2 d2) (.slice a3 n3 d3) j → j < w.heap.size := by
    intro j hj
    rcases hj with e | e | e
    · exact (h.1.lt j e).2
    · exact (h.2.1.lt j e).2
    · exact (h.2.2.1.lt j e).2
  have kb := Blk.new w #[.slice a1 n1 d1, .slice a2 n2 d2, .slice a3 n3 d3] 38
  have h' := own3_alloc h (.cells #[.slice a1 n1 d1, .slice a2 n2 d2, .slice a3 n3 d3] 38)
  have T0 : Turn (Blks (.slice a1 n1 d1) (.slice a2 n2 d2) (.slice a3 n3 d3)) w (w.alloc (.cells #[.slice a1 n1 d1, .slice a2 n2 d2, .slice a3 n3 d3] 38)) := turn_alloc w _
  obtain ⟨o12, o13, o23⟩ := h.2.2.2
  go_enter Tryz.func29, Tryz.ntmps29
  go_wp2_with fail
  refine (markByteS_any a1 n1 d1 base x1 1 _ h'.1 (by omega) (by omega)).mono ?_
  rintro e w1 ⟨rfl, p1, t1⟩
  have kb1 := turn_blk t1 kb (fun e => by have := hlt _ (Or.inl e); omega)
  have p2 := turn_ob t1 h'.2.1 (fun k hk e => Nat.lt_irrefl _ (o12 k k e hk))
  have p3 := turn_ob t1 h'.2.2.1 (fun k hk e => Nat.lt_irrefl _ (o13 k k e hk))
  have T1 := T0.trans (t1.mono (fun k hk => Or.inl hk))
  clear t1 kb h'
  obtain ⟨q1, q2, q3, q4⟩ := kb1.three
  go_wp2_with fail
  refine (markByteS_any a2 n2 d2 base x2 (1 + n1) _ p2 (by omega) (by omega)).mono ?_
  rintro e w2 ⟨rfl, p2, t2⟩
  have kb2 := turn_blk t2 kb1 (fun e => by have := hlt _ (Or.inr (Or.inl e)); omega)
  have p1 := turn_ob t2 p1 (fun k hk e => Nat.lt_irrefl _ (o12 k k hk e))
  have p3 := turn_ob t2 p3 (fun k hk e => Nat.lt_irrefl _ (o23 k k e hk))
  have T2 := T1.trans (t2.mono (fun k hk => Or.inr (Or.inl hk)))
  clear t2 kb1 q1 q2 q3 q4
  obtain ⟨q1, q2, q3, q4⟩ := kb2.three
  go_wp2_with fail
  refine (markByteS_any a3 n3 d3 base x3 (1 + n1 + n2) _ p3 (by omega) (by omega)).mono ?_
  rintro e w3 ⟨rfl, p3, t3⟩
  have p1 := turn_ob t3 p1 (fun k hk e => Nat.lt_irrefl _ (o13 k k hk e))
  have p2 := turn_ob t3 p2 (fun k hk e => Nat.lt_irrefl _ (o23 k k hk e))
  have T3 := T2.trans (t3.mono (fun k hk => Or.inr (Or.inr hk)))
  go_wp2
  go_ret
  exact ⟨rfl, ⟨p1, p2, p3, o12, o13, o23⟩, T3⟩

set_option maxHeartbeats 1000000 in
theorem heldMem_any (a1 a2 a3 : Option Addr) (n1 d1 n2 d2 n3 d3 : Nat) (w : World) (h1 : BS w a1 n1 d1 (marks 1 n1)) (h2 : BS w a2 n2 d2 (marks (1 + n1) n2)) (h3 : BS w a3 n3 d3 (marks (1 + n1 + n2) n3)) (hn : n1 + n2 + n3 ≤ 2097152) :
    Calls Tryz.prog 32 #[.agg #[.slice a1 n1 d1, .slice a2 n2 d2, .slice a3 n3 d3], .int .i64 1] w fun e w' => e = .returned (.int .i64 ((1 + n1 + n2 + n3 : Nat) : Int)) ∧ Below w.heap.size w w' := by
  have hB0 : Below w.heap.size w (w.alloc (.cells #[.slice a1 n1 d1, .slice a2 n2 d2, .slice a3 n3 d3] 38)) := (Below.refl _ _).alloc (Nat.le_refl _) _
  go_enter Tryz.func32, Tryz.ntmps32
  go_wp2_with fail
  refine (heldByteS_any a1 n1 d1 1 _ (h1.below hB0) (by omega) (by omega)).mono ?_
  rintro e w1 ⟨rfl, rfl⟩
  have e1 : (0 : Int) ≤ ((1 + n1 : Nat) : Int) := by omega
  go_wp2_with fail
  refine (heldByteS_any a2 n2 d2 (1 + n1) _ (h2.below hB0) (by omega) (by omega)).mono ?_
  rintro e w1 ⟨rfl, rfl⟩
  have e2 : (0 : Int) ≤ ((1 + n1 + n2 : Nat) : Int) := by omega
  go_wp2_with fail
  refine (heldByteS_any a3 n3 d3 (1 + n1 + n2) _ (h3.below hB0) (by omega) (by omega)).mono ?_
  rintro e w1 ⟨rfl, rfl⟩
  have e3 : (0 : Int) ≤ ((1 + n1 + n2 + n3 : Nat) : Int) := by omega
  go_wp2
  go_ret
  exact ⟨rfl, hB0⟩
end Go.Proofs.YtngdgogjlpjjpadGreat

namespace Go.Proofs.YtngdgogjlpjjpadGreat
open Go.RowKit
set_option linter.unusedVariables false

def set6 (w : World) (g o : Nat) (r : Rg) : World :=
  (((((w.setCell ⟨g, o, none⟩ (.int .i64 r.1)).setCell ⟨g, o + 1, none⟩ (.int .i64 r.2.1)).setCell ⟨g, o + 2, none⟩ (.int .i64 r.2.2.1)).setCell ⟨g, o + 3, none⟩ (.bool r.2.2.2.1)).setCell ⟨g, o + 4, none⟩ (.bool r.2.2.2.2.1)).setCell ⟨g, o + 5, none⟩ (.bool r.2.2.2.2.2)

theorem cell_other {w : World} {g o o' b : Nat} {v : Value} (h : b ≠ g ∨ o' ≠ o) : (w.setCell ⟨g, o, none⟩ v).cell? ⟨b, o', none⟩ = w.cell? ⟨b, o', none⟩ :=
  World.cell?_setCell_other _ _ _ _ (by intro e; injection e; rcases h with h | h <;> simp_all)
theorem cell_same {w : World} {g o : Nat} {u v : Value} (h : w.cell? ⟨g, o, none⟩ = some u) : (w.setCell ⟨g, o, none⟩ v).cell? ⟨g, o, none⟩ = some v := World.cell?_setCell_same _ _ _ h

theorem set6_other (w : World) (g o b o' : Nat) (r : Rg) (h : b ≠ g ∨ o' < o ∨ o + 6 ≤ o') : (set6 w g o r).cell? ⟨b, o', none⟩ = w.cell? ⟨b, o', none⟩ := by
  unfold set6
  rw [cell_other (by omega), cell_other (by omega), cell_other (by omega), cell_other (by omega), cell_other (by omega), cell_other (by omega)]
theorem set6_at {w : World} {g o : Nat} {q : Rg} (h : At6 w g o q) (r : Rg) : At6 (set6 w g o r) g o r := by
  obtain ⟨h1, h2, h3, h4, h5, h6⟩ := h
  unfold set6
  refine ⟨?_, ?_, ?_, ?_, ?_, ?_⟩
  · rw [cell_other (by omega), cell_other (by omega), cell_other (by omega), cell_other (by omega), cell_other (by omega)]; exact cell_same h1
  · rw [cell_other (by omega), cell_other (by omega), cell_other (by omega), cell_other (by omega)]; exact cell_same (by rw [cell_other (by omega)]; exact h2)
  · rw [cell_other (by omega), cell_other (by omega), cell_other (by omega)]; exact cell_same (by rw [cell_other (by omega), cell_other (by omega)]; exact h3)
  · rw [cell_other (by omega), cell_other (by omega)]; exact cell_same (by rw [cell_other (by omega), cell_other (by omega), cell_other (by omega)]; exact h4)
  · rw [cell_other (by omega)]; exact cell_same (by rw [cell_other (by omega), cell_other (by omega), cell_other (by omega), cell_other (by omega)]; exact h5)
  · exact cell_same (by rw [cell_other (by omega), cell_other (by omega), cell_other (by omega), cell_other (by omega), cell_other (by omega)]; exact h6)
theorem set6_far {w : World} {g o b o' : Nat} {q : Rg} (h : At6 w b o' q) (r : Rg) (hf : b ≠ g ∨ o' + 6 ≤ o ∨ o + 6 ≤ o') : At6 (set6 w g o r) b o' q := by
  unfold At6
  rw [set6_other _ _ _ _ _ _ (by omega), set6_other _ _ _ _ _ _ (by omega), set6_other _ _ _ _ _ _ (by omega), set6_other _ _ _ _ _ _ (by omega), set6_other _ _ _ _ _ _ (by omega), set6_other _ _ _ _ _ _ (by omega)]
  exact h
theorem set6_size (w : World) (g o : Nat) (r : Rg) : (set6 w g o r).heap.size = w.heap.size := by simp [set6]
theorem set6_blk {w : World} {g : Nat} {cur : Array Value} {t : TypeId} (h : Blk w g cur t) (o : Nat) (r : Rg) : ∃ cur', Blk (set6 w g o r) g cur' t ∧ cur'.size = cur.size :=
  ⟨_, ((((((h.set o _).set (o + 1) _).set (o + 2) _).set (o + 3) _).set (o + 4) _).set (o + 5) _), by simp⟩
theorem set6_below {B : Nat} {a w : World} (h : Below B a w) {g : Nat} (hg : B ≤ g) (o : Nat) (r : Rg) : Below B a (set6 w g o r) :=
  (((((h.setCell (p := ⟨g, o, none⟩) hg _).setCell (p := ⟨g, o + 1, none⟩) hg _).setCell (p := ⟨g, o + 2, none⟩) hg _).setCell (p := ⟨g, o + 3, none⟩) hg _).setCell (p := ⟨g, o + 4, none⟩) hg _).setCell (p := ⟨g, o + 5, none⟩) hg _

/-- A ROW OF REGIONS OF THE CALL's OWN: the whole block g. -/
def RowR (w : World) (g : Nat) (rs : List Rg) : Prop :=
  (∃ cur, Blk w g cur 135 ∧ cur.size = rs.length * 6) ∧ ∀ i, i < rs.length → At6 w g (i * 6) (rs.getD i z6)
theorem RowR.lt {w : World} {g : Nat} {rs : List Rg} (h : RowR w g rs) : g < w.heap.size := by obtain ⟨⟨cur, hb, _⟩, _⟩ := h; exact hb.lt
theorem RowR.below {w w' : World} {g : Nat} {rs : List Rg} (h : RowR w g rs) (hb : Below w.heap.size w w') : RowR w' g rs := by
  obtain ⟨⟨cur, hc, hs⟩, hr⟩ := h
  exact ⟨⟨cur, hc.below hb, hs⟩, fun i hi => (hr i hi).below hb⟩
theorem RowR.frozen {w : World} {g : Nat} {rs : List Rg} (h : RowR w g rs) (i : Nat) : w.frozen? ⟨g, i, none⟩ = false := by obtain ⟨⟨cur, hb, _⟩, _⟩ := h; exact hb.frozen i
theorem RowR.set {w : World} {g : Nat} {rs : List Rg} (h : RowR w g rs) (i : Nat) (hi : i < rs.length) (r : Rg) : RowR (set6 w g (i * 6) r) g (rs.set i r) := by
  obtain ⟨⟨cur, hc, hs⟩, hr⟩ := h
  obtain ⟨cur', hc', hs'⟩ := set6_blk hc (i * 6) r
  refine ⟨⟨cur', hc', by rw [hs', hs, List.length_set]⟩, fun j hj => ?_⟩
  rw [List.length_set] at hj
  by_cases e : i = j
  · subst e
    have : (rs.set i r).getD i z6 = r := by simp [List.getD_eq_getElem?_getD, hi]
    rw [this]
    exact set6_at (hr i hi) r
  · have : (rs.set i r).getD j z6 = rs.getD j z6 := by simp [List.getD_eq_getElem?_getD, e]
    rw [this]
    exact set6_far (hr j hj) r (by omega)
theorem RowR.rs {w : World} {g : Nat} {rs : List Rg} (h : RowR w g rs) (hm : rs.length ≤ maxLen) (hw : ∀ g ∈ rs, wfi g.1 ∧ wfi g.2.1 ∧ wfi g.2.2.1) (n cap : Nat) (hn : rs.length = n) (hc : n ≤ cap := by exact Nat.le_refl _) : RS w (some ⟨g, 0, none⟩) n cap rs := by
  subst hn
  exact ⟨rfl, hm, hw, fun _ => ⟨g, 0, rfl, fun i hi => by rw [Nat.zero_add]; exact h.2 i hi⟩, hc⟩

theorem rowR_of_made {w : World} {base g n : Nat} (h : w.ownsRow base 135 6 (.slice (some ⟨g, 0, none⟩) n n) n (madeCells (Value.cells (.agg #[.int .i64 0, .int .i64 0, .int .i64 0, .bool false, .bool false, .bool false])) (n * 6)).toList) : RowR w g (List.replicate n z6) := by
  obtain ⟨hl, h | ⟨g', cap, cur, hv, hb, hh, h1, h2, h3, h4⟩⟩ := h
  · simp at h
  · simp at hv
    obtain ⟨rfl, rfl⟩ := hv
    have e : cur.toList = (madeCells (Value.cells (.agg #[.int .i64 0, .int .i64 0, .int .i64 0, .bool false, .bool false, .bool false])) (n * 6)).toList := by
      rw [← h4, List.take_of_length_le (by simp [h3])]
    have e2 : cur = madeCells (Value.cells (.agg #[.int .i64 0, .int .i64 0, .int .i64 0, .bool false, .bool false, .bool false])) (n * 6) := Array.toList_inj.1 e
    have hB : Blk w g cur 135 := hh
    refine ⟨⟨cur, hB, by simp [h3]⟩, fun i hi => ?_⟩
    simp at hi
    have hcell : ∀ j, j < 6 → w.cell? ⟨g, i * 6 + j, none⟩ = #[Value.int .i64 0, .int .i64 0, .int .i64 0, .bool false, .bool false, .bool false][j]? := by
      intro j hj
      rw [hB.cell, e2]
      have hm : (i * 6 + j) % 6 = j := by omega
      simp [madeCells, Value.cells, show i * 6 + j < n * 6 by omega, hm]
      match j, hj with
      | 0, _ => rfl
      | 1, _ => rfl
      | 2, _ => rfl
      | 3, _ => rfl
      | 4, _ => rfl
      | 5, _ => rfl
    have hz : (List.replicate n z6).getD i z6 = z6 := by simp [List.getD_eq_getElem?_getD, hi]
    rw [hz]
    exact ⟨hcell 0 (by omega), hcell 1 (by omega), hcell 2 (by omega), hcell 3 (by omega), hcell 4 (by omega), hcell 5 (by omega)⟩

def midR (rs : List Rg) (k : Nat) : List Rg := (List.range rs.length).map (fun i => if i < k then rs.getD i z6 else z6)
theorem midR_len (rs : List Rg) (k : Nat) : (midR rs k).length = rs.length := by simp [midR]
theorem midR_zero (rs : List Rg) : midR rs 0 = List.replicate rs.length z6 := by
  apply List.ext_getElem
  · simp [midR]
  · intro i h1 h2; simp [midR]
theorem midR_all (rs : List Rg) : midR rs rs.length = rs := by
  apply List.ext_getElem
  · simp [midR]
  · intro i h1 h2; simp [midR, h2]
theorem midR_set (rs : List Rg) (k : Nat) (h : k < rs.length) : (midR rs k).set k (rs.getD k z6) = midR rs (k + 1) := by
  apply List.ext_getElem
  · simp [midR]
  · intro i h1 h2
    simp only [midR, List.getElem_set, List.getElem_map, List.getElem_range]
    by_cases hik : k = i
    · subst hik; simp
    · by_cases h3 : i < k
      · simp [hik, h3, show i < k + 1 by omega]
      · simp [hik, h3, show ¬ i < k + 1 by omega]
end Go.Proofs.YtngdgogjlpjjpadGreat

namespace Go.Proofs.YtngdgogjlpjjpadGreat
open Go.RowKit
set_option linter.unusedVariables false

def cells6 (g : Rg) : List Value := [.int .i64 g.1, .int .i64 g.2.1, .int .i64 g.2.2.1, .bool g.2.2.2.1, .bool g.2.2.2.2.1, .bool g.2.2.2.2.2]
def flat (rs : List Rg) : List Value := rs.flatMap cells6
theorem flat_len : ∀ rs : List Rg, (flat rs).length = rs.length * 6
  | [] => rfl
  | g :: rs => by simp only [flat, List.flatMap_cons, List.length_append]; have := flat_len rs; simp only [flat] at this; rw [this]; simp [cells6]; omega
theorem flat_get : ∀ (rs : List Rg) (i j : Nat), i < rs.length → j < 6 → (flat rs)[i * 6 + j]? = (cells6 (rs.getD i z6))[j]?
  | [], i, j, h, _ => absurd h (by simp)
  | g :: rs, 0, j, _, hj => by
    simp only [flat, List.flatMap_cons]
    rw [List.getElem?_append_left (by simp [cells6]; omega)]
    simp
  | g :: rs, i + 1, j, h, hj => by
    have hh := flat_get rs i j (by simpa using h) hj
    simp only [flat, List.flatMap_cons] at hh ⊢
    rw [List.getElem?_append_right (by simp [cells6]; omega)]
    have e : (i + 1) * 6 + j - (cells6 g).length = i * 6 + j := by simp [cells6]; omega
    rw [e, hh]
    simp
/-- A SLICE OF REGIONS OF THE CALL's OWN, from block 'base' on. -/
def OR (w : World) (base : Nat) (v : Value) (rs : List Rg) : Prop := w.ownsRow base 135 6 v rs.length (flat rs) ∧ ∀ g ∈ rs, wfi g.1 ∧ wfi g.2.1 ∧ wfi g.2.2.1
theorem or_rs {w : World} {base n cap : Nat} {a : Option Addr} {rs : List Rg} (h : OR w base (.slice a n cap) rs) : RS w a n cap rs := by
  obtain ⟨hl, ⟨h0, h0'⟩ | ⟨g, cap', cur, hv, hg, hh, h1, h2, h3, h4⟩⟩ := h.1
  · simp at h0
    obtain ⟨rfl, rfl, rfl⟩ := h0
    exact ⟨h0', Nat.zero_le _, h.2, fun hn => absurd rfl hn, Nat.le_refl _⟩
  · simp at hv
    obtain ⟨rfl, rfl, rfl⟩ := hv
    refine ⟨rfl, by omega, h.2, fun hn => ⟨g, 0, rfl, fun i hi => ?_⟩, h1⟩
    have hc : ∀ j, j < 6 → w.cell? ⟨g, 0 + i * 6 + j, none⟩ = (cells6 (rs.getD i z6))[j]? := by
      intro j hj
      rw [Blk.cell (w := w) hh]
      have : cur.toList[0 + i * 6 + j]? = (flat rs)[i * 6 + j]? := by
        rw [← h4, List.getElem?_take, if_pos (by omega), Nat.zero_add]
      rw [Array.getElem?_toList] at this
      rw [this, flat_get rs i j hi hj]
    exact ⟨hc 0 (by omega), hc 1 (by omega), hc 2 (by omega), hc 3 (by omega), hc 4 (by omega), hc 5 (by omega)⟩
theorem turn_or {S : Nat → Prop} {base : Nat} {w w' : World} {v : Value} {rs : List Rg} (t : Turn S w w') (h : OR w base v rs) (hk : ∀ k, base ≤ k → ¬ S k) : OR w' base v rs := by
  refine ⟨?_, h.2⟩
  obtain ⟨hl, h0 | ⟨g', cap, cur, hv, hg, hh, h1, h2, h3, h4⟩⟩ := h.1
  · exact ⟨hl, .inl h0⟩
  · exact ⟨hl, .inr ⟨g', cap, cur, hv, hg, turn_blk t hh (hk g' hg), h1, h2, h3, h4⟩⟩
theorem or_empty (w : World) (base : Nat) (hb : base ≤ w.heap.size) : OR (w.alloc (.cells #[] 135)) base (.slice (some ⟨w.heap.size, 0, none⟩) 0 0) [] :=
  ⟨⟨rfl, .inr ⟨w.heap.size, 0, #[], rfl, hb, heap_alloc_new w _, Nat.le_refl _, Nat.zero_le _, rfl, rfl⟩⟩, fun _ h => by cases h⟩
theorem or_shape {w : World} {base n : Nat} {t : TypeId} {sz : Nat} {v : Value} {xs : List Value} (h : w.ownsRow base t sz v n xs) : ∃ a cap, v = .slice a n cap := by
  obtain ⟨_, ⟨rfl, rfl⟩ | ⟨g, cap, cur, rfl, _⟩⟩ := h
  · exact ⟨_, _, rfl⟩
  · exact ⟨_, _, rfl⟩
theorem news6 (w : World) (g : Rg) : ∀ j u, (cells6 g)[j]? = some u → (w.alloc (.cells #[.int .i64 g.1, .int .i64 g.2.1, .int .i64 g.2.2.1, .bool g.2.2.2.1, .bool g.2.2.2.2.1, .bool g.2.2.2.2.2] 135)).cell? ((⟨w.heap.size, 0, none⟩ : Addr).add j) = some u := by
  intro j u hj
  rw [addr_add, Nat.zero_add, Blk.cell (Blk.new w _ _), ← hj]
  match j with
  | 0 => rfl
  | 1 => rfl
  | 2 => rfl
  | 3 => rfl
  | 4 => rfl
  | 5 => rfl
  | j + 6 => rfl
theorem one6 (g : Rg) : ∀ u ∈ cells6 g, u.oneCell' = true := by
  intro u hu
  simp [cells6] at hu
  rcases hu with rfl | rfl | rfl | rfl | rfl | rfl <;> rfl
/-- a region is appended -/
theorem or_more {W W' : World} {base : Nat} {v v' : Value} {rs : List Rg} {g : Rg} (hr : ∀ g ∈ rs, wfi g.1 ∧ wfi g.2.1 ∧ wfi g.2.2.1) (hw : wfi g.1 ∧ wfi g.2.1 ∧ wfi g.2.2.1) (h : W'.ownsRow base 135 6 v' (rs.length + 1) (flat rs ++ cells6 g)) : OR W' base v' (rs ++ [g]) := by
  refine ⟨by simpa [flat] using h, fun y hy => ?_⟩
  rcases List.mem_append.1 hy with hy | hy
  · exact hr y hy
  · simp at hy; subst hy; exact hw
theorem grown_turn {W W' : World} {row : Option Nat} (h : W.grownBy W' row) : Turn (fun j => row = some j) W W' := ⟨h.os, h.tape, h.output, h.size, fun k hk hn => h.block k hk (fun e => hn e.symm)⟩
theorem turn_far {S S' : Nat → Prop} {w W W' : World} (h : Turn S w W) (t : Turn S' W W') (hs : ∀ j, S' j → w.heap.size ≤ j) : Turn S w W' :=
  ⟨t.os.trans h.os, t.tape.trans h.tape, t.output.trans h.output, Nat.le_trans h.size t.size, fun k hk hn => (t.block k (Nat.lt_of_lt_of_le hk h.size) (fun e => by have := hs k e; omega)).trans (h.block k hk hn)⟩
end Go.Proofs.YtngdgogjlpjjpadGreat

namespace Go.Proofs.YtngdgogjlpjjpadGreat
open Go.RowKit
set_option linter.unusedVariables false

theorem flat_cell (rs : List Rg) (q : Nat) (hq : q < rs.length) : (flat rs)[q * 6]? = some (.int .i64 (rs.getD q z6).1) ∧ (flat rs)[q * 6 + 1]? = some (.int .i64 (rs.getD q z6).2.1) ∧ (flat rs)[q * 6 + 2]? = some (.int .i64 (rs.getD q z6).2.2.1) ∧ (flat rs)[q * 6 + 3]? = some (.bool (rs.getD q z6).2.2.2.1) ∧ (flat rs)[q * 6 + 4]? = some (.bool (rs.getD q z6).2.2.2.2.1) ∧ (flat rs)[q * 6 + 5]? = some (.bool (rs.getD q z6).2.2.2.2.2) := by
  induction rs generalizing q with
  | nil => simp at hq
  | cons r rs ih =>
    cases q with
    | zero => exact ⟨rfl, rfl, rfl, rfl, rfl, rfl⟩
    | succ q =>
      have := ih q (by simpa using hq)
      have e : ∀ j, (flat (r :: rs))[(q + 1) * 6 + j]? = (flat rs)[q * 6 + j]? := fun j => by
        rw [show (q + 1) * 6 + j = (q * 6 + j) + 6 by omega]
        rfl
      have e0 := e 0
      simp only [Nat.add_zero] at e0
      rw [e0, e 1, e 2, e 3, e 4, e 5]
      simpa using this
theorem row_or {w : World} {g base n : Nat} {rs : List Rg} (h : RowR w g rs) (hb : base ≤ g) (hn : rs.length = n) (hm : n ≤ maxLen) (hw : ∀ g ∈ rs, wfi g.1 ∧ wfi g.2.1 ∧ wfi g.2.2.1) : OR w base (.slice (some ⟨g, 0, none⟩) n n) rs := by
  subst hn
  obtain ⟨⟨cur, hc, hs⟩, hr⟩ := h
  have e : cur.toList = flat rs := by
    apply List.ext_getElem?
    intro i
    by_cases hi : i < rs.length * 6
    · have hq : i / 6 < rs.length := by omega
      obtain ⟨f0, f1, f2, f3, f4, f5⟩ := flat_cell rs (i / 6) hq
      obtain ⟨c0, c1, c2, c3, c4, c5⟩ := hr (i / 6) hq
      rw [hc.cell] at c0 c1 c2 c3 c4 c5
      rw [Array.getElem?_toList]
      rcases (show i = i / 6 * 6 ∨ i = i / 6 * 6 + 1 ∨ i = i / 6 * 6 + 2 ∨ i = i / 6 * 6 + 3 ∨ i = i / 6 * 6 + 4 ∨ i = i / 6 * 6 + 5 by omega) with h | h | h | h | h | h
      · rw [h, c0, f0]
      · rw [h, c1, f1]
      · rw [h, c2, f2]
      · rw [h, c3, f3]
      · rw [h, c4, f4]
      · rw [h, c5, f5]
    · rw [List.getElem?_eq_none (by simp; omega), List.getElem?_eq_none (by rw [flat_len]; omega)]
  exact ⟨⟨by rw [flat_len], .inr ⟨g, rs.length, cur, rfl, hb, hc, Nat.le_refl _, hm, hs, by rw [← flat_len, ← e, List.take_length]⟩⟩, hw⟩
set_option maxHeartbeats 1000000 in
theorem markMem_k (a1 a2 a3 : Option Addr) (n1 d1 n2 d2 n3 d3 base : Nat) (x1 x2 x3 : List Int) (k : Nat) (w : World) (h : Own3 w base (.slice a1 n1 d1) (.slice a2 n2 d2) (.slice a3 n3 d3) x1 x2 x3) (hn : n1 + n2 + n3 ≤ 2097152) (hk : k ≤ 2097152) :
    Calls Tryz.prog 29 #[.agg #[.slice a1 n1 d1, .slice a2 n2 d2, .slice a3 n3 d3], .int .i64 k] w fun e w' => e = .returned (.int .i64 ((k + n1 + n2 + n3 : Nat) : Int)) ∧ Own3 w' base (.slice a1 n1 d1) (.slice a2 n2 d2) (.slice a3 n3 d3) (marks k n1) (marks (k + n1) n2) (marks (k + n1 + n2) n3) ∧ Turn (Blks (.slice a1 n1 d1) (.slice a2 n2 d2) (.slice a3 n3 d3)) w w' := by
  have hlt : ∀ j, Blks (.slice a1 n1 d1) (.slice a2 n2 d2) (.slice a3 n3 d3) j → j < w.heap.size := by
    intro j hj
    rcases hj with e | e | e
    · exact (h.1.lt j e).2
    · exact (h.2.1.lt j e).2
    · exact (h.2.2.1.lt j e).2
  have kb := Blk.new w #[.slice a1 n1 d1, .slice a2 n2 d2, .slice a3 n3 d3] 38
  have h' := own3_alloc h (.cells #[.slice a1 n1 d1, .slice a2 n2 d2, .slice a3 n3 d3] 38)
  have T0 : Turn (Blks (.slice a1 n1 d1) (.slice a2 n2 d2) (.slice a3 n3 d3)) w (w.alloc (.cells #[.slice a1 n1 d1, .slice a2 n2 d2, .slice a3 n3 d3] 38)) := turn_alloc w _
  obtain ⟨o12, o13, o23⟩ := h.2.2.2
  go_enter Tryz.func29, Tryz.ntmps29
  go_wp2_with fail
  refine (markByteS_any a1 n1 d1 base x1 k _ h'.1 (by omega) (by omega)).mono ?_
  rintro e w1 ⟨rfl, p1, t1⟩
  have kb1 := turn_blk t1 kb (fun e => by have := hlt _ (Or.inl e); omega)
  have p2 := turn_ob t1 h'.2.1 (fun k hk e => Nat.lt_irrefl _ (o12 k k e hk))
  have p3 := turn_ob t1 h'.2.2.1 (fun k hk e => Nat.lt_irrefl _ (o13 k k e hk))
  have T1 := T0.trans (t1.mono (fun k hk => Or.inl hk))
  clear t1 kb h'
  obtain ⟨q1, q2, q3, q4⟩ := kb1.three
  go_wp2_with fail
  refine (markByteS_any a2 n2 d2 base x2 (k + n1) _ p2 (by omega) (by omega)).mono ?_
  rintro e w2 ⟨rfl, p2, t2⟩
  have kb2 := turn_blk t2 kb1 (fun e => by have := hlt _ (Or.inr (Or.inl e)); omega)
  have p1 := turn_ob t2 p1 (fun k hk e => Nat.lt_irrefl _ (o12 k k hk e))
  have p3 := turn_ob t2 p3 (fun k hk e => Nat.lt_irrefl _ (o23 k k e hk))
  have T2 := T1.trans (t2.mono (fun k hk => Or.inr (Or.inl hk)))
  clear t2 kb1 q1 q2 q3 q4
  obtain ⟨q1, q2, q3, q4⟩ := kb2.three
  go_wp2_with fail
  refine (markByteS_any a3 n3 d3 base x3 (k + n1 + n2) _ p3 (by omega) (by omega)).mono ?_
  rintro e w3 ⟨rfl, p3, t3⟩
  have p1 := turn_ob t3 p1 (fun k hk e => Nat.lt_irrefl _ (o13 k k hk e))
  have p2 := turn_ob t3 p2 (fun k hk e => Nat.lt_irrefl _ (o23 k k hk e))
  have T3 := T2.trans (t3.mono (fun k hk => Or.inr (Or.inr hk)))
  go_wp2
  go_ret
  exact ⟨rfl, ⟨p1, p2, p3, o12, o13, o23⟩, T3⟩

set_option maxHeartbeats 1000000 in
theorem heldMem_k (a1 a2 a3 : Option Addr) (n1 d1 n2 d2 n3 d3 k : Nat) (w : World) (h1 : BS w a1 n1 d1 (marks k n1)) (h2 : BS w a2 n2 d2 (marks (k + n1) n2)) (h3 : BS w a3 n3 d3 (marks (k + n1 + n2) n3)) (hn : n1 + n2 + n3 ≤ 2097152) (hk : k ≤ 2097152) :
    Calls Tryz.prog 32 #[.agg #[.slice a1 n1 d1, .slice a2 n2 d2, .slice a3 n3 d3], .int .i64 k] w fun e w' => e = .returned (.int .i64 ((k + n1 + n2 + n3 : Nat) : Int)) ∧ Below w.heap.size w w' := by
  have hB0 : Below w.heap.size w (w.alloc (.cells #[.slice a1 n1 d1, .slice a2 n2 d2, .slice a3 n3 d3] 38)) := (Below.refl _ _).alloc (Nat.le_refl _) _
  go_enter Tryz.func32, Tryz.ntmps32
  go_wp2_with fail
  refine (heldByteS_any a1 n1 d1 k _ (h1.below hB0) (by omega) (by omega)).mono ?_
  rintro e w1 ⟨rfl, rfl⟩
  have e1 : (0 : Int) ≤ ((k + n1 : Nat) : Int) := by omega
  go_wp2_with fail
  refine (heldByteS_any a2 n2 d2 (k + n1) _ (h2.below hB0) (by omega) (by omega)).mono ?_
  rintro e w1 ⟨rfl, rfl⟩
  have e2 : (0 : Int) ≤ ((k + n1 + n2 : Nat) : Int) := by omega
  go_wp2_with fail
  refine (heldByteS_any a3 n3 d3 (k + n1 + n2) _ (h3.below hB0) (by omega) (by omega)).mono ?_
  rintro e w1 ⟨rfl, rfl⟩
  have e3 : (0 : Int) ≤ ((k + n1 + n2 + n3 : Nat) : Int) := by omega
  go_wp2
  go_ret
  exact ⟨rfl, hB0⟩
end Go.Proofs.YtngdgogjlpjjpadGreat

namespace Go.Proofs.YtngdgogjlpjjpadGreat
open Go
set_option linter.unusedSimpArgs false

/-- How many operations have not come up yet. -/
def leftOf (n : Nat) (listed : Array Bool) : Nat := ((List.range n).filter fun i => !listed.getD i true).length
theorem filter_lt {l : List Nat} {p q : Nat → Bool} (h : ∀ x ∈ l, q x = true → p x = true) {i : Nat} (hi : i ∈ l) (hp : p i = true) (hq : q i = false) : (l.filter q).length < (l.filter p).length := by
  induction l with
  | nil => cases hi
  | cons x xs ih =>
    have hle : (xs.filter q).length ≤ (xs.filter p).length := by
      clear ih hi
      induction xs with
      | nil => simp
      | cons y ys ih2 =>
        have h2 := ih2 (fun z hz => h z (by simp only [List.mem_cons] at hz ⊢; rcases hz with e | e; exact .inl e; exact .inr (.inr e)))
        have h3 := h y (by simp)
        cases hq' : q y with
        | false => cases hp' : p y <;> simp [List.filter_cons, hq', hp'] <;> omega
        | true => simp [List.filter_cons, hq', h3 hq']; omega
    have h1 := h x (by simp)
    rcases List.mem_cons.1 hi with e | e
    · subst e
      simp [List.filter_cons, hp, hq]
      omega
    · have h4 := ih (fun z hz => h z (by simp [hz])) e
      cases hq' : q x with
      | false => cases hp' : p x <;> simp [List.filter_cons, hq', hp'] <;> omega
      | true => simp [List.filter_cons, hq', h1 hq']; omega
theorem leftOf_lt {n : Nat} {listed : Array Bool} {i : Nat} (hi : i < n) (h : listed.getD i true = false) : leftOf n (listed.setIfInBounds i true) < leftOf n listed := by
  have hs : i < listed.size := by
    rcases Nat.lt_or_ge i listed.size with h' | h'
    · exact h'
    · simp [Array.getElem?_eq_none h'] at h
  refine filter_lt (i := i) (fun x _ hx => ?_) (by simpa using hi) (by rw [h]; rfl) (by simp [hs])
  by_cases hxi : i = x
  · subst hxi; rw [h]; rfl
  · rw [getD_set_ne true hxi] at hx; exact hx

/-- A region whose operations may come up in any order, by ONE invariant over 'which have come up'. -/
theorem wpAny_inv {P : Program} {ops : Array Oper} {Q : Exit → Act → World → Prop} {md : Region.Mode} (Inv : Array Bool → Act → World → Prop)
    (hstep : ∀ (listed : Array Bool) (a : Act) (w : World) (i : Nat) (K : Act → World → Prop), Inv listed a w → i ∈ Region.ready md ops listed → (∀ a' w', Inv (listed.setIfInBounds i true) a' w' → K a' w') → wpOp P ops Q i K a w)
    (hend : ∀ (listed : Array Bool) (a : Act) (w : World), Inv listed a w → Region.ready md ops listed = [] → Q .normal a w) :
    ∀ (fuel : Nat) (listed : Array Bool) (a : Act) (w : World), leftOf ops.size listed ≤ fuel → Inv listed a w → wpAny P md ops Q fuel listed a w := by
  intro fuel
  induction fuel with
  | zero =>
    intro listed a w hf h
    have hr : Region.ready md ops listed = [] := by
      rw [List.eq_nil_iff_forall_not_mem]
      intro i hi
      obtain ⟨h0, o, ho, _⟩ := mem_ready.1 hi
      have := leftOf_lt (n := ops.size) (Array.getElem?_eq_some_iff.1 ho).1 h0
      omega
    exact ⟨hr, hend _ _ _ h hr⟩
  | succ fuel ih =>
    intro listed a w hf h
    refine ⟨fun hr => hend _ _ _ h hr, fun i hi => hstep listed a w i _ h hi fun a' w' h' => ih _ a' w' ?_ h'⟩
    obtain ⟨h0, o, ho, _⟩ := mem_ready.1 hi
    have := leftOf_lt (n := ops.size) (Array.getElem?_eq_some_iff.1 ho).1 h0
    omega
theorem leftOf_le (n : Nat) (listed : Array Bool) : leftOf n listed ≤ n := by
  unfold leftOf
  exact Nat.le_trans (List.length_filter_le _ _) (by simp)
theorem wp_region_inv {P : Program} {ops : Array Oper} {Q : Exit → Act → World → Prop} {id : Nat} {a : Act} {w : World} (hm : P.follows .mixedOrders = true) (Inv : Array Bool → Act → World → Prop)
    (h0 : Inv (Array.replicate ops.size false) a { w with drawn := w.drawn + 1 })
    (hstep : ∀ (listed : Array Bool) (a : Act) (w : World) (i : Nat) (K : Act → World → Prop), Inv listed a w → i ∈ Region.ready .any ops listed → (∀ a' w', Inv (listed.setIfInBounds i true) a' w' → K a' w') → wpOp P ops Q i K a w)
    (hend : ∀ (listed : Array Bool) (a : Act) (w : World), Inv listed a w → Region.ready .any ops listed = [] → Q .normal a w) : (Code.region id ops true).wp P Q a w :=
  wp_region_any hm (wpAny_inv Inv hstep hend _ _ _ _ (leftOf_le _ _) h0)
theorem wp_region_inv0 {P : Program} {ops : Array Oper} {Q : Exit → Act → World → Prop} {id : Nat} {A : Act} {w : World} (hm : P.follows .mixedOrders = true) (Inv : Act → Array Bool → Act → World → Prop)
    (h0 : Inv A (Array.replicate ops.size false) A w.drew)
    (hstep : ∀ (listed : Array Bool) (a : Act) (w : World) (i : Nat) (K : Act → World → Prop), Inv A listed a w → i ∈ Region.ready .any ops listed → (∀ a' w', Inv A (listed.setIfInBounds i true) a' w' → K a' w') → wpOp P ops Q i K a w)
    (hend : ∀ (listed : Array Bool) (a : Act) (w : World), Inv A listed a w → Region.ready .any ops listed = [] → Q .normal a w) : (Code.region id ops true).wp P Q A w :=
  wp_region_inv hm (Inv A) h0 hstep hend
end Go.Proofs.YtngdgogjlpjjpadGreat
