import Derived.Test.YthnelonbpbhhbabRg
import Derived.Test.YthnelonbpbhhbabTurn
namespace Go.Proofs.Ythnelonbpbhhbab
open Go.RowKit
set_option linter.unusedVariables false

def cells6 (g : Rg) : List Value := [.int .i64 g.1, .int .i64 g.2.1, .int .i64 g.2.2.1, .bool g.2.2.2.1, .bool g.2.2.2.2.1, .bool g.2.2.2.2.2]
def flat (rs : List Rg) : List Value := rs.flatMap cells6
theorem flat_len : ∀ rs : List Rg, (flat rs).length = rs.length * 6
  | [] => rfl
  | g :: rs => by simp only [flat, List.flatMap_cons, List.length_append]; have := flat_len rs; simp only [flat] at this; rw [this]; simp [cells6]; omega
theorem flat_get : ∀ (rs : List Rg) (i j : Nat), i < rs.length → j < 6 → (flat rs)[i * 6 + j]? = (cells6 (rs.getD i z6))[j]?
  | [], i, j, h, _ => absurd h (by simp)
  | g :: rs, 0, j, _, hj => by
    simp only [flat, List.flatMap_cons]
    rw [List.getElem?_append_left (by simp [cells6]; omega)]
    simp
  | g :: rs, i + 1, j, h, hj => by
    have hh := flat_get rs i j (by simpa using h) hj
    simp only [flat, List.flatMap_cons] at hh ⊢
    rw [List.getElem?_append_right (by simp [cells6]; omega)]
    have e : (i + 1) * 6 + j - (cells6 g).length = i * 6 + j := by simp [cells6]; omega
    rw [e, hh]
    simp
/-- A SLICE OF REGIONS OF THE CALL's OWN, from block 'base' on. -/
def OR (w : World) (base : Nat) (v : Value) (rs : List Rg) : Prop := w.ownsRow base 30 6 v rs.length (flat rs) ∧ ∀ g ∈ rs, wfi g.1 ∧ wfi g.2.1 ∧ wfi g.2.2.1
theorem or_rs {w : World} {base n cap : Nat} {a : Option Addr} {rs : List Rg} (h : OR w base (.slice a n cap) rs) : RS w a n cap rs := by
  obtain ⟨hl, ⟨h0, h0'⟩ | ⟨g, cap', cur, hv, hg, hh, h1, h2, h3, h4⟩⟩ := h.1
  · simp at h0
    obtain ⟨rfl, rfl, rfl⟩ := h0
    exact ⟨h0', Nat.zero_le _, h.2, fun hn => absurd rfl hn, Nat.le_refl _⟩
  · simp at hv
    obtain ⟨rfl, rfl, rfl⟩ := hv
    refine ⟨rfl, by omega, h.2, fun hn => ⟨g, 0, rfl, fun i hi => ?_⟩, h1⟩
    have hc : ∀ j, j < 6 → w.cell? ⟨g, 0 + i * 6 + j, none⟩ = (cells6 (rs.getD i z6))[j]? := by
      intro j hj
      rw [Blk.cell (w := w) hh]
      have : cur.toList[0 + i * 6 + j]? = (flat rs)[i * 6 + j]? := by
        rw [← h4, List.getElem?_take, if_pos (by omega), Nat.zero_add]
      rw [Array.getElem?_toList] at this
      rw [this, flat_get rs i j hi hj]
    exact ⟨hc 0 (by omega), hc 1 (by omega), hc 2 (by omega), hc 3 (by omega), hc 4 (by omega), hc 5 (by omega)⟩
theorem turn_or {S : Nat → Prop} {base : Nat} {w w' : World} {v : Value} {rs : List Rg} (t : Turn S w w') (h : OR w base v rs) (hk : ∀ k, base ≤ k → ¬ S k) : OR w' base v rs := by
  refine ⟨?_, h.2⟩
  obtain ⟨hl, h0 | ⟨g', cap, cur, hv, hg, hh, h1, h2, h3, h4⟩⟩ := h.1
  · exact ⟨hl, .inl h0⟩
  · exact ⟨hl, .inr ⟨g', cap, cur, hv, hg, turn_blk t hh (hk g' hg), h1, h2, h3, h4⟩⟩
theorem or_empty (w : World) (base : Nat) (hb : base ≤ w.heap.size) : OR (w.alloc (.cells #[] 30)) base (.slice (some ⟨w.heap.size, 0, none⟩) 0 0) [] :=
  ⟨⟨rfl, .inr ⟨w.heap.size, 0, #[], rfl, hb, heap_alloc_new w _, Nat.le_refl _, Nat.zero_le _, rfl, rfl⟩⟩, fun _ h => by cases h⟩
theorem or_shape {w : World} {base n : Nat} {t : TypeId} {sz : Nat} {v : Value} {xs : List Value} (h : w.ownsRow base t sz v n xs) : ∃ a cap, v = .slice a n cap := by
  obtain ⟨_, ⟨rfl, rfl⟩ | ⟨g, cap, cur, rfl, _⟩⟩ := h
  · exact ⟨_, _, rfl⟩
  · exact ⟨_, _, rfl⟩
theorem news6 (w : World) (g : Rg) : ∀ j u, (cells6 g)[j]? = some u → (w.alloc (.cells #[.int .i64 g.1, .int .i64 g.2.1, .int .i64 g.2.2.1, .bool g.2.2.2.1, .bool g.2.2.2.2.1, .bool g.2.2.2.2.2] 30)).cell? ((⟨w.heap.size, 0, none⟩ : Addr).add j) = some u := by
  intro j u hj
  rw [addr_add, Nat.zero_add, Blk.cell (Blk.new w _ _), ← hj]
  match j with
  | 0 => rfl
  | 1 => rfl
  | 2 => rfl
  | 3 => rfl
  | 4 => rfl
  | 5 => rfl
  | j + 6 => rfl
theorem one6 (g : Rg) : ∀ u ∈ cells6 g, u.oneCell' = true := by
  intro u hu
  simp [cells6] at hu
  rcases hu with rfl | rfl | rfl | rfl | rfl | rfl <;> rfl
/-- a region is appended -/
theorem or_more {W W' : World} {base : Nat} {v v' : Value} {rs : List Rg} {g : Rg} (hr : ∀ g ∈ rs, wfi g.1 ∧ wfi g.2.1 ∧ wfi g.2.2.1) (hw : wfi g.1 ∧ wfi g.2.1 ∧ wfi g.2.2.1) (h : W'.ownsRow base 30 6 v' (rs.length + 1) (flat rs ++ cells6 g)) : OR W' base v' (rs ++ [g]) := by
  refine ⟨by simpa [flat] using h, fun y hy => ?_⟩
  rcases List.mem_append.1 hy with hy | hy
  · exact hr y hy
  · simp at hy; subst hy; exact hw
theorem grown_turn {W W' : World} {row : Option Nat} (h : W.grownBy W' row) : Turn (fun j => row = some j) W W' := ⟨h.os, h.tape, h.output, h.size, fun k hk hn => h.block k hk (fun e => hn e.symm)⟩
theorem turn_far {S S' : Nat → Prop} {w W W' : World} (h : Turn S w W) (t : Turn S' W W') (hs : ∀ j, S' j → w.heap.size ≤ j) : Turn S w W' :=
  ⟨t.os.trans h.os, t.tape.trans h.tape, t.output.trans h.output, Nat.le_trans h.size t.size, fun k hk hn => (t.block k (Nat.lt_of_lt_of_le hk h.size) (fun e => by have := hs k e; omega)).trans (h.block k hk hn)⟩
end Go.Proofs.Ythnelonbpbhhbab
