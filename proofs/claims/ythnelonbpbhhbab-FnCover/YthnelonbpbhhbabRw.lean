import Derived.Test.YthnelonbpbhhbabOwn
import Derived.Test.YthnelonbpbhhbabAl5
namespace Go.Proofs.Ythnelonbpbhhbab
open Go.RowKit
set_option linter.unusedVariables false

/-- a row of regions at the head of block g -/
def RowW (w : World) (g : Nat) (rs : List Rg) : Prop :=
  (∃ cur, Blk w g cur 30) ∧ ∀ i, i < rs.length → At6 w g (i * 6) (rs.getD i z6)
theorem RowW.frozen {w : World} {g : Nat} {rs : List Rg} (h : RowW w g rs) (i : Nat) : w.frozen? ⟨g, i, none⟩ = false := by obtain ⟨⟨cur, hb⟩, _⟩ := h; exact hb.frozen i
theorem RowW.set {w : World} {g : Nat} {rs : List Rg} (h : RowW w g rs) (i : Nat) (hi : i < rs.length) (r : Rg) : RowW (set6 w g (i * 6) r) g (rs.set i r) := by
  obtain ⟨⟨cur, hc⟩, hr⟩ := h
  obtain ⟨cur', hc', hs'⟩ := set6_blk hc (i * 6) r
  refine ⟨⟨cur', hc'⟩, fun j hj => ?_⟩
  rw [List.length_set] at hj
  by_cases e : i = j
  · subst e
    have : (rs.set i r).getD i z6 = r := by simp [List.getD_eq_getElem?_getD, hi]
    rw [this]
    exact set6_at (hr i hi) r
  · have : (rs.set i r).getD j z6 = rs.getD j z6 := by simp [List.getD_eq_getElem?_getD, e]
    rw [this]
    exact set6_far (hr j hj) r (by omega)
theorem set6_turn (w : World) (g o : Nat) (r : Rg) : Turn (fun j => j = g) w (set6 w g o r) := by
  have step : ∀ (w : World) (o : Nat) (v : Value), Turn (fun j => j = g) w (w.setCell ⟨g, o, none⟩ v) := fun w o v =>
    ⟨rfl, rfl, rfl, by rw [size_setCell]; exact Nat.le_refl _, fun j hj hs => heap_setCell_other _ _ _ _ hs⟩
  unfold set6
  exact (((((step _ _ _).trans (step _ _ _)).trans (step _ _ _)).trans (step _ _ _)).trans (step _ _ _)).trans (step _ _ _)
theorem or_roww {w : World} {base n cap g : Nat} {rs : List Rg} (h : OR w base (.slice (some ⟨g, 0, none⟩) n cap) rs) (hn : n ≠ 0) : RowW w g rs := by
  have hr := or_rs h
  have hl := hr.1
  obtain ⟨_, ⟨h0, h0'⟩ | ⟨g', cap', cur, hv, hg, hh, h1, h2, h3, h4⟩⟩ := h.1
  · simp at h0
  · simp at hv
    obtain ⟨rfl, _⟩ := hv
    exact ⟨⟨cur, hh⟩, fun i hi => by have := hr.at i (by omega); rw [Nat.zero_add] at this; exact this⟩

theorem turn_or' {S : Nat → Prop} {base : Nat} {w w' : World} {v : Value} {rs : List Rg} (t : Turn S w w') (h : OR w base v rs) (hk : ∀ k, v.ownBlock = some k → ¬ S k) : OR w' base v rs := by
  refine ⟨?_, h.2⟩
  obtain ⟨hl, h0 | ⟨g', cap, cur, rfl, hg, hh, h1, h2, h3, h4⟩⟩ := h.1
  · exact ⟨hl, .inl h0⟩
  · exact ⟨hl, .inr ⟨g', cap, cur, rfl, hg, turn_blk t hh (hk g' rfl), h1, h2, h3, h4⟩⟩
theorem or_lt {base : Nat} {w : World} {v : Value} {rs : List Rg} (h : OR w base v rs) (k : Nat) (hk : v.ownBlock = some k) : k < w.heap.size := by
  obtain ⟨hl, ⟨rfl, h0⟩ | ⟨g', cap, cur, rfl, hg, hh, h1, h2, h3, h4⟩⟩ := h.1
  · cases hk
  · have e : some g' = some k := hk
    injection e with e
    subst e
    exact Blk.lt (w := w) hh

end Go.Proofs.Ythnelonbpbhhbab
