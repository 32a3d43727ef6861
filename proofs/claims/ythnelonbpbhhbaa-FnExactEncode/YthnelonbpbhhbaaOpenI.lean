import Derived.Test.YthnelonbpbhhbaaOpen
namespace Go.Proofs.Ythnelonbpbhhbaa
open Go.ChangeShapes Go.WideShapes Go.ChangeAt Go.RowKit
set_option linter.unusedVariables false

theorem array4 {α : Type} {cs : Array α} (h : cs.size = 4) : ∃ c0 c1 c2 c3, cs = #[c0, c1, c2, c3] := by
  obtain ⟨l⟩ := cs
  match l, h with
  | [c0, c1, c2, c3], _ => exact ⟨c0, c1, c2, c3, rfl⟩

set_option maxRecDepth 100000 in
theorem open_ins {H : Type} {enc : TypeId × Value → H} {w : World} {base b0 : Nat} {spare : Nat → Bool} {held : Bool} {r : Reach} {v : Value} {d : DataW H} {p : List MemPlace}
    (hv : Value.okWide Try.prog w r b0 40 v) (h : DataW.Trod enc Try.prog w base spare held 40 v d p) :
    ∃ (o d a i : Int), v = .agg #[.int .i64 o, .int .i64 d, .int .i64 a, .int .i64 i] := by
  obtain ⟨cs, rfl, hsz⟩ := okWide_struct Try.underlying40 hv
  obtain ⟨c0, c1, c2, c3, rfl⟩ := array4 (hsz.trans (by kernel_rfl))
  obtain ⟨fuel, hf⟩ := h
  obtain ⟨xs, n, _, _, hl, hlen, hf⟩ := DataW.trod_struct Try.underlying40 hf
  match xs, hlen with
  | [y0, y1, y2, y3], _ =>
  have k0 := hf 0 _ rfl
  have k1 := hf 1 _ rfl
  have k2 := hf 2 _ rfl
  have k3 := hf 3 _ rfl
  have e3 : Try.prog.cellsOf 3 = 1 := by kernel_rfl
  simp [Value.cells, e3] at k0 k1 k2 k3
  obtain ⟨a0, h0, _, wa⟩ := DataW.trod_int Try.underlying3 k0
  obtain ⟨a1, h1, _, wb⟩ := DataW.trod_int Try.underlying3 k1
  obtain ⟨a2, h2, _, wc⟩ := DataW.trod_int Try.underlying3 k2
  obtain ⟨a3, h3, _, wd⟩ := DataW.trod_int Try.underlying3 k3
  simp at h0 h1 h2 h3
  subst h0 h1 h2 h3
  exact ⟨a0, a1, a2, a3, rfl⟩
end Go.Proofs.Ythnelonbpbhhbaa
