import Derived.Test.YthnelonbpbhhbabRg
namespace Go.Proofs.Ythnelonbpbhhbab
open Go.RowKit
set_option linter.unusedVariables false

def set6 (w : World) (g o : Nat) (r : Rg) : World :=
  (((((w.setCell ⟨g, o, none⟩ (.int .i64 r.1)).setCell ⟨g, o + 1, none⟩ (.int .i64 r.2.1)).setCell ⟨g, o + 2, none⟩ (.int .i64 r.2.2.1)).setCell ⟨g, o + 3, none⟩ (.bool r.2.2.2.1)).setCell ⟨g, o + 4, none⟩ (.bool r.2.2.2.2.1)).setCell ⟨g, o + 5, none⟩ (.bool r.2.2.2.2.2)

theorem cell_other {w : World} {g o o' b : Nat} {v : Value} (h : b ≠ g ∨ o' ≠ o) : (w.setCell ⟨g, o, none⟩ v).cell? ⟨b, o', none⟩ = w.cell? ⟨b, o', none⟩ :=
  World.cell?_setCell_other _ _ _ _ (by intro e; injection e; rcases h with h | h <;> simp_all)
theorem cell_same {w : World} {g o : Nat} {u v : Value} (h : w.cell? ⟨g, o, none⟩ = some u) : (w.setCell ⟨g, o, none⟩ v).cell? ⟨g, o, none⟩ = some v := World.cell?_setCell_same _ _ _ h

theorem set6_other (w : World) (g o b o' : Nat) (r : Rg) (h : b ≠ g ∨ o' < o ∨ o + 6 ≤ o') : (set6 w g o r).cell? ⟨b, o', none⟩ = w.cell? ⟨b, o', none⟩ := by
  unfold set6
  rw [cell_other (by omega), cell_other (by omega), cell_other (by omega), cell_other (by omega), cell_other (by omega), cell_other (by omega)]
theorem set6_at {w : World} {g o : Nat} {q : Rg} (h : At6 w g o q) (r : Rg) : At6 (set6 w g o r) g o r := by
  obtain ⟨h1, h2, h3, h4, h5, h6⟩ := h
  unfold set6
  refine ⟨?_, ?_, ?_, ?_, ?_, ?_⟩
  · rw [cell_other (by omega), cell_other (by omega), cell_other (by omega), cell_other (by omega), cell_other (by omega)]; exact cell_same h1
  · rw [cell_other (by omega), cell_other (by omega), cell_other (by omega), cell_other (by omega)]; exact cell_same (by rw [cell_other (by omega)]; exact h2)
  · rw [cell_other (by omega), cell_other (by omega), cell_other (by omega)]; exact cell_same (by rw [cell_other (by omega), cell_other (by omega)]; exact h3)
  · rw [cell_other (by omega), cell_other (by omega)]; exact cell_same (by rw [cell_other (by omega), cell_other (by omega), cell_other (by omega)]; exact h4)
  · rw [cell_other (by omega)]; exact cell_same (by rw [cell_other (by omega), cell_other (by omega), cell_other (by omega), cell_other (by omega)]; exact h5)
  · exact cell_same (by rw [cell_other (by omega), cell_other (by omega), cell_other (by omega), cell_other (by omega), cell_other (by omega)]; exact h6)
theorem set6_far {w : World} {g o b o' : Nat} {q : Rg} (h : At6 w b o' q) (r : Rg) (hf : b ≠ g ∨ o' + 6 ≤ o ∨ o + 6 ≤ o') : At6 (set6 w g o r) b o' q := by
  unfold At6
  rw [set6_other _ _ _ _ _ _ (by omega), set6_other _ _ _ _ _ _ (by omega), set6_other _ _ _ _ _ _ (by omega), set6_other _ _ _ _ _ _ (by omega), set6_other _ _ _ _ _ _ (by omega), set6_other _ _ _ _ _ _ (by omega)]
  exact h
theorem set6_size (w : World) (g o : Nat) (r : Rg) : (set6 w g o r).heap.size = w.heap.size := by simp [set6]
theorem set6_blk {w : World} {g : Nat} {cur : Array Value} {t : TypeId} (h : Blk w g cur t) (o : Nat) (r : Rg) : ∃ cur', Blk (set6 w g o r) g cur' t ∧ cur'.size = cur.size :=
  ⟨_, ((((((h.set o _).set (o + 1) _).set (o + 2) _).set (o + 3) _).set (o + 4) _).set (o + 5) _), by simp⟩
theorem set6_below {B : Nat} {a w : World} (h : Below B a w) {g : Nat} (hg : B ≤ g) (o : Nat) (r : Rg) : Below B a (set6 w g o r) :=
  (((((h.setCell (p := ⟨g, o, none⟩) hg _).setCell (p := ⟨g, o + 1, none⟩) hg _).setCell (p := ⟨g, o + 2, none⟩) hg _).setCell (p := ⟨g, o + 3, none⟩) hg _).setCell (p := ⟨g, o + 4, none⟩) hg _).setCell (p := ⟨g, o + 5, none⟩) hg _

/-- A ROW OF REGIONS OF THE CALL's OWN: the whole block g. -/
def RowR (w : World) (g : Nat) (rs : List Rg) : Prop :=
  (∃ cur, Blk w g cur 30 ∧ cur.size = rs.length * 6) ∧ ∀ i, i < rs.length → At6 w g (i * 6) (rs.getD i z6)
theorem RowR.lt {w : World} {g : Nat} {rs : List Rg} (h : RowR w g rs) : g < w.heap.size := by obtain ⟨⟨cur, hb, _⟩, _⟩ := h; exact hb.lt
theorem RowR.below {w w' : World} {g : Nat} {rs : List Rg} (h : RowR w g rs) (hb : Below w.heap.size w w') : RowR w' g rs := by
  obtain ⟨⟨cur, hc, hs⟩, hr⟩ := h
  exact ⟨⟨cur, hc.below hb, hs⟩, fun i hi => (hr i hi).below hb⟩
theorem RowR.frozen {w : World} {g : Nat} {rs : List Rg} (h : RowR w g rs) (i : Nat) : w.frozen? ⟨g, i, none⟩ = false := by obtain ⟨⟨cur, hb, _⟩, _⟩ := h; exact hb.frozen i
theorem RowR.set {w : World} {g : Nat} {rs : List Rg} (h : RowR w g rs) (i : Nat) (hi : i < rs.length) (r : Rg) : RowR (set6 w g (i * 6) r) g (rs.set i r) := by
  obtain ⟨⟨cur, hc, hs⟩, hr⟩ := h
  obtain ⟨cur', hc', hs'⟩ := set6_blk hc (i * 6) r
  refine ⟨⟨cur', hc', by rw [hs', hs, List.length_set]⟩, fun j hj => ?_⟩
  rw [List.length_set] at hj
  by_cases e : i = j
  · subst e
    have : (rs.set i r).getD i z6 = r := by simp [List.getD_eq_getElem?_getD, hi]
    rw [this]
    exact set6_at (hr i hi) r
  · have : (rs.set i r).getD j z6 = rs.getD j z6 := by simp [List.getD_eq_getElem?_getD, e]
    rw [this]
    exact set6_far (hr j hj) r (by omega)
theorem RowR.rs {w : World} {g : Nat} {rs : List Rg} (h : RowR w g rs) (hm : rs.length ≤ maxLen) (hw : ∀ g ∈ rs, wfi g.1 ∧ wfi g.2.1 ∧ wfi g.2.2.1) (n cap : Nat) (hn : rs.length = n) (hc : n ≤ cap := by exact Nat.le_refl _) : RS w (some ⟨g, 0, none⟩) n cap rs := by
  subst hn
  exact ⟨rfl, hm, hw, fun _ => ⟨g, 0, rfl, fun i hi => by rw [Nat.zero_add]; exact h.2 i hi⟩, hc⟩

theorem rowR_of_made {w : World} {base g n : Nat} (h : w.ownsRow base 30 6 (.slice (some ⟨g, 0, none⟩) n n) n (madeCells (Value.cells (.agg #[.int .i64 0, .int .i64 0, .int .i64 0, .bool false, .bool false, .bool false])) (n * 6)).toList) : RowR w g (List.replicate n z6) := by
  obtain ⟨hl, h | ⟨g', cap, cur, hv, hb, hh, h1, h2, h3, h4⟩⟩ := h
  · simp at h
  · simp at hv
    obtain ⟨rfl, rfl⟩ := hv
    have e : cur.toList = (madeCells (Value.cells (.agg #[.int .i64 0, .int .i64 0, .int .i64 0, .bool false, .bool false, .bool false])) (n * 6)).toList := by
      rw [← h4, List.take_of_length_le (by simp [h3])]
    have e2 : cur = madeCells (Value.cells (.agg #[.int .i64 0, .int .i64 0, .int .i64 0, .bool false, .bool false, .bool false])) (n * 6) := Array.toList_inj.1 e
    have hB : Blk w g cur 30 := hh
    refine ⟨⟨cur, hB, by simp [h3]⟩, fun i hi => ?_⟩
    simp at hi
    have hcell : ∀ j, j < 6 → w.cell? ⟨g, i * 6 + j, none⟩ = #[Value.int .i64 0, .int .i64 0, .int .i64 0, .bool false, .bool false, .bool false][j]? := by
      intro j hj
      rw [hB.cell, e2]
      have hm : (i * 6 + j) % 6 = j := by omega
      simp [madeCells, Value.cells, show i * 6 + j < n * 6 by omega, hm]
      match j, hj with
      | 0, _ => rfl
      | 1, _ => rfl
      | 2, _ => rfl
      | 3, _ => rfl
      | 4, _ => rfl
      | 5, _ => rfl
    have hz : (List.replicate n z6).getD i z6 = z6 := by simp [List.getD_eq_getElem?_getD, hi]
    rw [hz]
    exact ⟨hcell 0 (by omega), hcell 1 (by omega), hcell 2 (by omega), hcell 3 (by omega), hcell 4 (by omega), hcell 5 (by omega)⟩

def midR (rs : List Rg) (k : Nat) : List Rg := (List.range rs.length).map (fun i => if i < k then rs.getD i z6 else z6)
theorem midR_len (rs : List Rg) (k : Nat) : (midR rs k).length = rs.length := by simp [midR]
theorem midR_zero (rs : List Rg) : midR rs 0 = List.replicate rs.length z6 := by
  apply List.ext_getElem
  · simp [midR]
  · intro i h1 h2; simp [midR]
theorem midR_all (rs : List Rg) : midR rs rs.length = rs := by
  apply List.ext_getElem
  · simp [midR]
  · intro i h1 h2; simp [midR, h2]
theorem midR_set (rs : List Rg) (k : Nat) (h : k < rs.length) : (midR rs k).set k (rs.getD k z6) = midR rs (k + 1) := by
  apply List.ext_getElem
  · simp [midR]
  · intro i h1 h2
    simp only [midR, List.getElem_set, List.getElem_map, List.getElem_range]
    by_cases hik : k = i
    · subst hik; simp
    · by_cases h3 : i < k
      · simp [hik, h3, show i < k + 1 by omega]
      · simp [hik, h3, show ¬ i < k + 1 by omega]
end Go.Proofs.Ythnelonbpbhhbab
