import Derived.Test.YthnelonbpbhhbabOpenB
namespace Go.Proofs.Ythnelonbpbhhbab
open Go.ChangeShapes Go.WideShapes Go.ChangeAt Go.RowKit
set_option linter.unusedVariables false

theorem array6 {α : Type} {cs : Array α} (h : cs.size = 6) : ∃ c0 c1 c2 c3 c4 c5, cs = #[c0, c1, c2, c3, c4, c5] := by
  obtain ⟨l⟩ := cs
  match l, h with
  | [c0, c1, c2, c3, c4, c5], _ => exact ⟨c0, c1, c2, c3, c4, c5, rfl⟩

set_option maxRecDepth 100000 in
theorem open_region {H : Type} {enc : TypeId × Value → H} {w : World} {base b0 : Nat} {spare : Nat → Bool} {held : Bool} {r : Reach} {v : Value} {d : DataW H} {p : List MemPlace}
    (hv : Value.okWide Try.prog w r b0 86 v) (h : DataW.Trod enc Try.prog w base spare held 86 v d p) :
    ∃ (b l o : Int) (x y z : Bool), v = .agg #[.int .i64 b, .int .i64 l, .int .i64 o, .bool x, .bool y, .bool z] ∧ (Lit.int .i64 b).wf = true ∧ (Lit.int .i64 l).wf = true ∧ (Lit.int .i64 o).wf = true := by
  obtain ⟨cs, rfl, hsz⟩ := okWide_struct Try.underlying86 hv
  obtain ⟨c0, c1, c2, c3, c4, c5, rfl⟩ := array6 (hsz.trans (by kernel_rfl))
  obtain ⟨fuel, hf⟩ := h
  obtain ⟨xs, n, _, _, hl, hlen, hf⟩ := DataW.trod_struct Try.underlying86 hf
  match xs, hlen with
  | [y0, y1, y2, y3, y4, y5], _ =>
  have k0 := hf 0 _ rfl
  have k1 := hf 1 _ rfl
  have k2 := hf 2 _ rfl
  have k3 := hf 3 _ rfl
  have k4 := hf 4 _ rfl
  have k5 := hf 5 _ rfl
  have e3 : Try.prog.cellsOf 3 = 1 := by kernel_rfl
  have e4 : Try.prog.cellsOf 4 = 1 := by kernel_rfl
  simp [Value.cells, e3, e4] at k0 k1 k2 k3 k4 k5
  obtain ⟨a0, h0, _, wa⟩ := DataW.trod_int Try.underlying3 k0
  obtain ⟨a1, h1, _, wb⟩ := DataW.trod_int Try.underlying3 k1
  obtain ⟨a2, h2, _, wc⟩ := DataW.trod_int Try.underlying3 k2
  obtain ⟨a3, h3, _⟩ := DataW.trod_bool Try.underlying4 k3
  obtain ⟨a4, h4, _⟩ := DataW.trod_bool Try.underlying4 k4
  obtain ⟨a5, h5, _⟩ := DataW.trod_bool Try.underlying4 k5
  simp at h0 h1 h2 h3 h4 h5
  subst h0 h1 h2 h3 h4 h5
  exact ⟨a0, a1, a2, a3, a4, a5, rfl, wa, wb, wc⟩


theorem array3 {α : Type} {cs : Array α} (h : cs.size = 3) : ∃ c0 c1 c2, cs = #[c0, c1, c2] := by
  obtain ⟨l⟩ := cs
  match l, h with
  | [c0, c1, c2], _ => exact ⟨c0, c1, c2, rfl⟩

set_option maxRecDepth 100000 in
theorem open_mem {H : Type} {enc : TypeId × Value → H} {w : World} {base b0 : Nat} {held : Bool} {r : Reach} {v : Value} {d : DataW H} {p : List MemPlace}
    (hv : Value.okWide Try.prog w r b0 35 v) (h : DataW.Trod enc Try.prog w base (fun _ => true) held 35 v d p) :
    ∃ (a1 a2 a3 : Option Addr) (n1 c1 n2 c2 n3 c3 : Nat) (x1 x2 x3 : List Int), v = .agg #[.slice a1 n1 c1, .slice a2 n2 c2, .slice a3 n3 c3] ∧ BS w a1 n1 c1 x1 ∧ BS w a2 n2 c2 x2 ∧ BS w a3 n3 c3 x3 := by
  obtain ⟨cs, rfl, hsz⟩ := okWide_struct Try.underlying35 hv
  obtain ⟨c0, c1, c2, rfl⟩ := array3 (hsz.trans (by kernel_rfl))
  obtain ⟨fuel, hf⟩ := h
  obtain ⟨xs, n, _, _, hl, hlen, hf⟩ := DataW.trod_struct Try.underlying35 hf
  match xs, hlen with
  | [y0, y1, y2], _ =>
  have k0 := hf 0 _ rfl
  have k1 := hf 1 _ rfl
  have k2 := hf 2 _ rfl
  have e3 : Try.prog.cellsOf 22 = 1 := by kernel_rfl
  simp [Value.cells, e3] at k0 k1 k2
  obtain ⟨a1, n1, d1, x1, e1, b1⟩ := bs_of_trod k0
  obtain ⟨a2, n2, d2, x2, e2, b2⟩ := bs_of_trod k1
  obtain ⟨a3, n3, d3, x3, e3, b3⟩ := bs_of_trod k2
  simp at e1 e2 e3
  subst e1 e2 e3
  exact ⟨a1, a2, a3, n1, d1, n2, d2, n3, d3, x1, x2, x3, rfl, b1, b2, b3⟩
end Go.Proofs.Ythnelonbpbhhbab
