import Derived.Test.YtngdgogjlpjjpaeGreatGa35
namespace Go.Proofs.YtngdgogjlpjjpaeGreat
open Go.ChangeShapes Go.WideShapes Go.ChangeAt Go.RowKit Classical
set_option linter.unusedVariables false

theorem array6 {α : Type} {cs : Array α} (h : cs.size = 6) : ∃ c0 c1 c2 c3 c4 c5, cs = #[c0, c1, c2, c3, c4, c5] := by
  obtain ⟨l⟩ := cs
  match l, h with
  | [c0, c1, c2, c3, c4, c5], _ => exact ⟨c0, c1, c2, c3, c4, c5, rfl⟩

theorem array3 {α : Type} {cs : Array α} (h : cs.size = 3) : ∃ c0 c1 c2, cs = #[c0, c1, c2] := by
  obtain ⟨l⟩ := cs
  match l, h with
  | [c0, c1, c2], _ => exact ⟨c0, c1, c2, rfl⟩

set_option maxRecDepth 100000 in
theorem open_mem {H : Type} {enc : TypeId × Value → H} {w : World} {base b0 : Nat} {held : Bool} {r : Reach} {v : Value} {d : DataW H} {p : List MemPlace}
    (hv : Value.okWide Tryz.prog w r b0 84 v) (h : DataW.Trod enc Tryz.prog w base (fun _ => true) held 84 v d p) :
    ∃ (a1 a2 a3 : Option Addr) (n1 c1 n2 c2 n3 c3 : Nat) (x1 x2 x3 : List Int), v = .agg #[.slice a1 n1 c1, .slice a2 n2 c2, .slice a3 n3 c3] ∧ BS w a1 n1 c1 x1 ∧ BS w a2 n2 c2 x2 ∧ BS w a3 n3 c3 x3 := by
  obtain ⟨cs, rfl, hsz⟩ := okWide_struct Tryz.underlying84 hv
  obtain ⟨c0, c1, c2, rfl⟩ := array3 (hsz.trans (by kernel_rfl))
  obtain ⟨fuel, hf⟩ := h
  obtain ⟨xs, n, _, _, hl, hlen, hf⟩ := DataW.trod_struct Tryz.underlying84 hf
  match xs, hlen with
  | [y0, y1, y2], _ =>
  have k0 := hf 0 _ rfl
  have k1 := hf 1 _ rfl
  have k2 := hf 2 _ rfl
  have e3 : Tryz.prog.cellsOf 41 = 1 := by kernel_rfl
  simp [Value.cells, e3] at k0 k1 k2
  obtain ⟨a1, n1, d1, x1, e1, b1⟩ := bs_of_trod k0
  obtain ⟨a2, n2, d2, x2, e2, b2⟩ := bs_of_trod k1
  obtain ⟨a3, n3, d3, x3, e3, b3⟩ := bs_of_trod k2
  simp at e1 e2 e3
  subst e1 e2 e3
  exact ⟨a1, a2, a3, n1, d1, n2, d2, n3, d3, x1, x2, x3, rfl, b1, b2, b3⟩
end Go.Proofs.YtngdgogjlpjjpaeGreat

namespace Go.Proofs.YtngdgogjlpjjpaeGreat
open Go.ChangeShapes Go.WideShapes Go.ChangeAt Go.RowKit Classical
set_option linter.unusedVariables false

theorem array3t {α : Type} {cs : Array α} (h : cs.size = 3) : ∃ c0 c1 c2, cs = #[c0, c1, c2] := by
  obtain ⟨l⟩ := cs
  match l, h with
  | [c0, c1, c2], _ => exact ⟨c0, c1, c2, rfl⟩

set_option maxRecDepth 100000 in
theorem open_target {H : Type} {enc : TypeId × Value → H} {w : World} {base b0 : Nat} {spare : Nat → Bool} {held : Bool} {r : Reach} {v : Value} {d : DataW H} {p : List MemPlace}
    (hv : Value.okWide Tryz.prog w r b0 67 v) (h : DataW.Trod enc Tryz.prog w base spare held 67 v d p) :
    ∃ (o d a : Int), v = .agg #[.int .i64 o, .int .i64 d, .int .i64 a] := by
  obtain ⟨cs, rfl, hsz⟩ := okWide_struct Tryz.underlying67 hv
  obtain ⟨c0, c1, c2, rfl⟩ := array3t (hsz.trans (by kernel_rfl))
  obtain ⟨fuel, hf⟩ := h
  obtain ⟨xs, n, _, _, hl, hlen, hf⟩ := DataW.trod_struct Tryz.underlying67 hf
  match xs, hlen with
  | [y0, y1, y2], _ =>
  have k0 := hf 0 _ rfl
  have k1 := hf 1 _ rfl
  have k2 := hf 2 _ rfl
  have e3 : Tryz.prog.cellsOf 3 = 1 := by kernel_rfl
  simp [Value.cells, e3] at k0 k1 k2
  obtain ⟨a0, h0, _, wa⟩ := DataW.trod_int Tryz.underlying3 k0
  obtain ⟨a1, h1, _, wb⟩ := DataW.trod_int Tryz.underlying3 k1
  obtain ⟨a2, h2, _, wc⟩ := DataW.trod_int Tryz.underlying3 k2
  simp at h0 h1 h2
  subst h0 h1 h2
  exact ⟨a0, a1, a2, rfl⟩
end Go.Proofs.YtngdgogjlpjjpaeGreat
