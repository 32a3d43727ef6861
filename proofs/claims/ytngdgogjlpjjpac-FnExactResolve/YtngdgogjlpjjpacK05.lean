import Derived.Test.YtngdgogjlpjjpacK03
namespace Go.Proofs.Ytngdgogjlpjjpac
open Go.RowKit
set_option linter.unusedVariables false

abbrev Rg := Int × Int × Int × Bool × Bool × Bool
def z6 : Rg := (0, 0, 0, false, false, false)

/-- THE SIX CELLS OF A REGION. -/
def At6 (w : World) (b o : Nat) (g : Rg) : Prop :=
  w.cell? ⟨b, o, none⟩ = some (.int .i64 g.1) ∧ w.cell? ⟨b, o + 1, none⟩ = some (.int .i64 g.2.1) ∧ w.cell? ⟨b, o + 2, none⟩ = some (.int .i64 g.2.2.1) ∧
  w.cell? ⟨b, o + 3, none⟩ = some (.bool g.2.2.2.1) ∧ w.cell? ⟨b, o + 4, none⟩ = some (.bool g.2.2.2.2.1) ∧ w.cell? ⟨b, o + 5, none⟩ = some (.bool g.2.2.2.2.2)

def wfi (z : Int) : Prop := -9223372036854775808 ≤ z ∧ z ≤ 9223372036854775807

/-- A SLICE OF REGIONS THAT READS AS rs. -/
def RS (w : World) (a : Option Addr) (n cap : Nat) (rs : List Rg) : Prop :=
  rs.length = n ∧ n ≤ maxLen ∧ (∀ g ∈ rs, wfi g.1 ∧ wfi g.2.1 ∧ wfi g.2.2.1) ∧ (n ≠ 0 → ∃ b off, a = some ⟨b, off, none⟩ ∧ ∀ i, i < n → At6 w b (off + i * 6) (rs.getD i z6)) ∧ n ≤ cap

theorem At6.below {w w' : World} {b o : Nat} {g : Rg} (h : At6 w b o g) (hb : Below w.heap.size w w') : At6 w' b o g := by
  obtain ⟨h1, h2, h3, h4, h5, h6⟩ := h
  have hl : b < w.heap.size := World.block_lt_of_cell? w _ h1
  unfold At6
  rw [hb.cell (p := ⟨b, o, none⟩) hl, hb.cell (p := ⟨b, o + 1, none⟩) hl, hb.cell (p := ⟨b, o + 2, none⟩) hl, hb.cell (p := ⟨b, o + 3, none⟩) hl, hb.cell (p := ⟨b, o + 4, none⟩) hl, hb.cell (p := ⟨b, o + 5, none⟩) hl]
  exact ⟨h1, h2, h3, h4, h5, h6⟩
theorem RS.below {w w' : World} {a : Option Addr} {n cap : Nat} {rs : List Rg} (h : RS w a n cap rs) (hb : Below w.heap.size w w') : RS w' a n cap rs := by
  obtain ⟨h1, h2, h3, h4, h5⟩ := h
  refine ⟨h1, h2, h3, fun hn => ?_, h5⟩
  obtain ⟨b, off, ha, hc⟩ := h4 hn
  exact ⟨b, off, ha, fun i hi => (hc i hi).below hb⟩
theorem RS.some {w : World} {a : Option Addr} {n cap : Nat} {rs : List Rg} (h : RS w a n cap rs) (hn : n ≠ 0) : ∃ b off, a = Option.some ⟨b, off, none⟩ := by
  obtain ⟨b, off, e, _⟩ := h.2.2.2.1 hn
  exact ⟨b, off, e⟩
theorem RS.at {w : World} {b off n cap : Nat} {rs : List Rg} (h : RS w (Option.some ⟨b, off, none⟩) n cap rs) (i : Nat) (hi : i < n) : At6 w b (off + i * 6) (rs.getD i z6) := by
  obtain ⟨b', off', e, hd⟩ := h.2.2.2.1 (by omega)
  simp at e
  obtain ⟨rfl, rfl⟩ := e
  exact hd i hi

end Go.Proofs.Ytngdgogjlpjjpac
