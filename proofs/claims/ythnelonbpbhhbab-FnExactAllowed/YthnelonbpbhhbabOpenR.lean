import Derived.Test.YthnelonbpbhhbabAl2
import Derived.Test.YthnelonbpbhhbabOpen
import Derived.Deep.Slices
namespace Go.Proofs.Ythnelonbpbhhbab
open Go.ChangeShapes Go.WideShapes Go.ChangeAt Go.RowKit
set_option linter.unusedVariables false

theorem add6 (b off i : Nat) : (Addr.add ⟨b, off, none⟩ i) = ⟨b, off + i, none⟩ := by
  simp only [Addr.add]
  split
  · next h => subst h; rfl
  · rfl

set_option maxRecDepth 100000 in
theorem region_cells {H : Type} {enc : TypeId × Value → H} {w : World} {base : Nat} {held : Bool} {spare : Nat → Bool} {fuel : Nat} {cs : List Value} {x : DataW H × List MemPlace}
    (h : DataW.trod enc Try.prog w base spare held fuel 86 cs = some x) : ∃ g : Rg, cs = [.int .i64 g.1, .int .i64 g.2.1, .int .i64 g.2.2.1, .bool g.2.2.2.1, .bool g.2.2.2.2.1, .bool g.2.2.2.2.2] ∧ wfi g.1 ∧ wfi g.2.1 ∧ wfi g.2.2.1 := by
  obtain ⟨xs, n, _, _, hl, hlen, hf⟩ := DataW.trod_struct Try.underlying86 h
  have e6 : Try.prog.cellsOf 86 = 6 := by kernel_rfl
  rw [e6] at hl
  match xs, hlen, cs, hl with
  | [y0, y1, y2, y3, y4, y5], _, [c0, c1, c2, c3, c4, c5], _ =>
  have k0 := hf 0 _ rfl
  have k1 := hf 1 _ rfl
  have k2 := hf 2 _ rfl
  have k3 := hf 3 _ rfl
  have k4 := hf 4 _ rfl
  have k5 := hf 5 _ rfl
  have e3 : Try.prog.cellsOf 3 = 1 := by kernel_rfl
  have e4 : Try.prog.cellsOf 4 = 1 := by kernel_rfl
  simp [e3, e4] at k0 k1 k2 k3 k4 k5
  obtain ⟨a0, h0, _, wa⟩ := DataW.trod_int Try.underlying3 k0
  obtain ⟨a1, h1, _, wb⟩ := DataW.trod_int Try.underlying3 k1
  obtain ⟨a2, h2, _, wc⟩ := DataW.trod_int Try.underlying3 k2
  obtain ⟨a3, h3, _⟩ := DataW.trod_bool Try.underlying4 k3
  obtain ⟨a4, h4, _⟩ := DataW.trod_bool Try.underlying4 k4
  obtain ⟨a5, h5, _⟩ := DataW.trod_bool Try.underlying4 k5
  simp at h0 h1 h2 h3 h4 h5
  subst h0 h1 h2 h3 h4 h5
  exact ⟨(a0, a1, a2, a3, a4, a5), rfl, wf_i64 wa, wf_i64 wb, wf_i64 wc⟩

set_option maxRecDepth 100000 in
theorem open_regions {H : Type} {enc : TypeId × Value → H} {w : World} {base b0 : Nat} {held : Bool} {r : Reach} {v : Value} {d : DataW H} {p : List MemPlace}
    (hv : Value.okWide Try.prog w r b0 50 v) (h : DataW.Trod enc Try.prog w base (fun _ => true) held 50 v d p) :
    ∃ a n cap rs, v = .slice a n cap ∧ RS w a n cap rs := by
  obtain ⟨a0, len0, cap0, rfl⟩ := okWide_slice Try.underlying50 hv
  obtain ⟨fuel, hf⟩ := h
  have e6 : Try.prog.cellsOf 86 = 6 := by kernel_rfl
  rcases Deep.open_slice Try.underlying50 hf with ⟨hcs, _⟩ | ⟨a, len, cap, m, n, D, Pl, hcs, hb, hl, hm, hmm, hx, hd⟩
  · simp [Value.cells] at hcs
    obtain ⟨rfl, rfl, rfl⟩ := hcs
    exact ⟨none, 0, 0, [], rfl, rfl, Nat.zero_le _, by simp, fun h => absurd rfl h, Nat.le_refl _⟩
  · simp [Value.cells] at hcs
    obtain ⟨rfl, rfl, rfl⟩ := hcs
    simp at hmm
    rw [hmm] at hd
    rw [e6] at hd
    obtain ⟨G, hG⟩ := Deep.choose_lt (α := Rg) (p := fun i g => (∃ cs', w.cells? base (a.add (i * 6)) 6 = some cs' ∧ cs' = [Value.int .i64 g.1, .int .i64 g.2.1, .int .i64 g.2.2.1, .bool g.2.2.2.1, .bool g.2.2.2.2.1, .bool g.2.2.2.2.2]) ∧ wfi g.1 ∧ wfi g.2.1 ∧ wfi g.2.2.1) (n := len0) (fun i hi => by
      obtain ⟨cs', h1, h2⟩ := hd i (by omega)
      obtain ⟨g, hg, hw⟩ := region_cells h2
      exact ⟨g, ⟨cs', h1, hg⟩, hw⟩)
    refine ⟨some a, len0, cap0, (List.range len0).map G, rfl, by simp, by omega, ?_, ?_, hl⟩
    · intro g hg
      simp at hg
      obtain ⟨i, hi, rfl⟩ := hg
      exact (hG i hi).2
    · intro hn
      obtain ⟨b, off, spot⟩ := a
      have hspot : spot = none := by
        obtain ⟨⟨cs', h1, h2⟩, _⟩ := hG 0 (by omega)
        have := (World.cells?_some h1).2.2 0 (by omega)
        rw [h2] at this
        simpa [Addr.add] using World.cell?_spot this
      subst hspot
      refine ⟨b, off, rfl, fun i hi => ?_⟩
      obtain ⟨⟨cs', h1, h2⟩, _⟩ := hG i hi
      have hc := (World.cells?_some h1).2.2
      rw [h2] at hc
      have hgi : ((List.range len0).map G).getD i z6 = G i := by simp [List.getD_eq_getElem?_getD, hi]
      rw [hgi]
      simp only [add6] at hc
      exact ⟨hc 0 (by omega), hc 1 (by omega), hc 2 (by omega), hc 3 (by omega), hc 4 (by omega), hc 5 (by omega)⟩
end Go.Proofs.Ythnelonbpbhhbab
