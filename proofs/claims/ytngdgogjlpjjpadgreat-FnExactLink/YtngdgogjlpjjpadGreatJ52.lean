import Derived.Test.YtngdgogjlpjjpadGreatJ22
import Derived.Test.YtngdgogjlpjjpadGreatJ51
import Derived.ChangeMaps5
namespace Go.Proofs.YtngdgogjlpjjpadGreat
open Go.ChangeShapes Go.WideShapes Go.ChangeAt Go.RowKit
set_option linter.unusedVariables false

set_option maxRecDepth 100000 in
theorem module_cells {H : Type} {enc : TypeId × Value → H} {w : World} {base : Nat} {held : Bool} {fuel : Nat} {cs : List Value} {x : DataW H × List MemPlace}
    (h : DataW.trod enc Tryz.prog w base (fun _ => true) held fuel 164 cs = some x) : ∃ m : Md, cs = m.cells.toList ∧ m.mt w := by
  obtain ⟨xs, n, _, _, hl, hlen, hf⟩ := DataW.trod_struct Tryz.underlying164 h
  have e8 : Tryz.prog.cellsOf 164 = 8 := by kernel_rfl
  rw [e8] at hl
  match xs, hlen, cs, hl with
  | [y0, y1, y2, y3, y4, y5, y6, y7], _, [c0, c1, c2, c3, c4, c5, c6, c7], _ =>
  have k0 := hf 0 _ rfl
  have k1 := hf 1 _ rfl
  have k2 := hf 2 _ rfl
  have k3 := hf 3 _ rfl
  have k4 := hf 4 _ rfl
  have k5 := hf 5 _ rfl
  have k6 := hf 6 _ rfl
  have k7 := hf 7 _ rfl
  have e1 : Tryz.prog.cellsOf 3 = 1 := by kernel_rfl
  have e2 : Tryz.prog.cellsOf 9 = 1 := by kernel_rfl
  have e3 : Tryz.prog.cellsOf 29 = 1 := by kernel_rfl
  have e4 : Tryz.prog.cellsOf 45 = 1 := by kernel_rfl
  have e5 : Tryz.prog.cellsOf 22 = 1 := by kernel_rfl
  have e6 : Tryz.prog.cellsOf 46 = 1 := by kernel_rfl
  have e7 : Tryz.prog.cellsOf 162 = 1 := by kernel_rfl
  simp [e1, e2, e3, e4, e5, e6, e7] at k0 k1 k2 k3 k4 k5 k6 k7
  obtain ⟨nm, h0, _, w0⟩ := DataW.trod_string Tryz.underlying9 k0
  obtain ⟨ta, tn, tc, tz, h1, w1⟩ := ints_of_trod k1
  obtain ⟨ba, bn, bc, bl, h2, w2⟩ := bks_of_trod k2
  obtain ⟨da, dn, dc, dz, h3, w3⟩ := bs_of_trod k3
  obtain ⟨bss, h4, _, w4⟩ := DataW.trod_int Tryz.underlying3 k4
  obtain ⟨ra, rn, rc, rz, h5, w5⟩ := ints_of_trod k5
  obtain ⟨ia, im, ic, ss, h6, w6⟩ := ts_of_trod k6
  obtain ⟨ea, en, ec, es, h7, w7⟩ := te_of_trod k7
  simp at h0 h1 h2 h3 h4 h5 h6 h7
  subst h0 h1 h2 h3 h4 h5 h6 h7
  exact ⟨⟨nm, ta, tn, tc, tz, ba, bn, bc, bl, da, dn, dc, dz, bss, ra, rn, rc, rz, ia, im, ic, ss, ea, en, ec, es⟩, rfl, w0, w1, w2, w3, wf_i64 w4, w5, w6, w7⟩

set_option maxRecDepth 100000 in
theorem ms_of_trod {H : Type} {enc : TypeId × Value → H} {w : World} {base : Nat} {held : Bool} {fuel : Nat} {cs : List Value} {x : DataW H × List MemPlace}
    (h : DataW.trod enc Tryz.prog w base (fun _ => true) held fuel 82 cs = some x) : ∃ a n cap ms, cs = [.slice a n cap] ∧ MS w a n cap ms := by
  have e1 : Tryz.prog.cellsOf 164 = 8 := by kernel_rfl
  rcases Deep.open_slice Tryz.underlying82 h with ⟨hcs, _⟩ | ⟨a, len, cap, m, n, D, Pl, hcs, hb, hl, hm, hmm, hx, hd⟩
  · exact ⟨none, 0, 0, [], hcs, rfl, Nat.zero_le _, fun h => absurd rfl h, fun i hi => by omega, Nat.le_refl _⟩
  · simp at hmm
    rw [hmm] at hd
    rw [e1] at hd
    haveI : Inhabited Md := ⟨zMd⟩
    obtain ⟨G, hG⟩ := Deep.choose_lt (α := Md) (p := fun i g => (∃ cs', w.cells? base (a.add (i * 8)) 8 = some cs' ∧ cs' = g.cells.toList) ∧ g.mt w) (n := len) (fun i hi => by
      obtain ⟨cs', h1, h2⟩ := hd i (by omega)
      obtain ⟨s, e, hI⟩ := module_cells h2
      exact ⟨s, ⟨cs', h1, e⟩, hI⟩)
    have hgi : ∀ i, i < len → ((List.range len).map G).getD i zMd = G i := fun i hi => by simp [List.getD_eq_getElem?_getD, hi]
    refine ⟨some a, len, cap, (List.range len).map G, hcs, by simp, by omega, ?_, fun i hi => by rw [hgi i hi]; exact (hG i hi).2, hl⟩
    intro hn
    obtain ⟨b, off, spot⟩ := a
    have hspot : spot = none := by
      obtain ⟨⟨cs', h1, h2⟩, _⟩ := hG 0 (by omega)
      have := (World.cells?_some h1).2.2 0 (by omega)
      rw [h2] at this
      simpa [Addr.add, Md.cells] using World.cell?_spot this
    subst hspot
    refine ⟨b, off, rfl, fun i hi => ?_⟩
    obtain ⟨⟨cs', h1, h2⟩, _⟩ := hG i hi
    have hc := (World.cells?_some h1).2.2
    rw [h2] at hc
    rw [hgi i hi]
    simp only [addM] at hc
    exact ⟨hc 0 (by omega), hc 1 (by omega), hc 2 (by omega), hc 3 (by omega), hc 4 (by omega), hc 5 (by omega), hc 6 (by omega), hc 7 (by omega)⟩

set_option maxRecDepth 100000 in
theorem open_modules {H : Type} {enc : TypeId × Value → H} {w : World} {base b0 : Nat} {held : Bool} {r : Reach} {v : Value} {d : DataW H} {p : List MemPlace}
    (hv : Value.okWide Tryz.prog w r b0 82 v) (h : DataW.Trod enc Tryz.prog w base (fun _ => true) held 82 v d p) :
    ∃ a n cap ms, v = .slice a n cap ∧ MS w a n cap ms := by
  obtain ⟨a0, len0, cap0, rfl⟩ := okWide_slice Tryz.underlying82 hv
  obtain ⟨fuel, hf⟩ := h
  obtain ⟨a, n, cap, ms, e, hm⟩ := ms_of_trod hf
  simp [Value.cells] at e
  obtain ⟨rfl, rfl, rfl⟩ := e
  exact ⟨_, _, _, ms, rfl, hm⟩
end Go.Proofs.YtngdgogjlpjjpadGreat

namespace Go.Proofs.YtngdgogjlpjjpadGreat
open Go.ChangeShapes Go.WideShapes Go.ChangeAt Go.RowKit
set_option linter.unusedVariables false

theorem array6 {α : Type} {cs : Array α} (h : cs.size = 6) : ∃ c0 c1 c2 c3 c4 c5, cs = #[c0, c1, c2, c3, c4, c5] := by
  obtain ⟨l⟩ := cs
  match l, h with
  | [c0, c1, c2, c3, c4, c5], _ => exact ⟨c0, c1, c2, c3, c4, c5, rfl⟩

set_option maxRecDepth 100000 in
theorem open_region {H : Type} {enc : TypeId × Value → H} {w : World} {base b0 : Nat} {spare : Nat → Bool} {held : Bool} {r : Reach} {v : Value} {d : DataW H} {p : List MemPlace}
    (hv : Value.okWide Tryz.prog w r b0 137 v) (h : DataW.Trod enc Tryz.prog w base spare held 137 v d p) :
    ∃ (b l o : Int) (x y z : Bool), v = .agg #[.int .i64 b, .int .i64 l, .int .i64 o, .bool x, .bool y, .bool z] ∧ (Lit.int .i64 b).wf = true ∧ (Lit.int .i64 l).wf = true ∧ (Lit.int .i64 o).wf = true := by
  obtain ⟨cs, rfl, hsz⟩ := okWide_struct Tryz.underlying137 hv
  obtain ⟨c0, c1, c2, c3, c4, c5, rfl⟩ := array6 (hsz.trans (by kernel_rfl))
  obtain ⟨fuel, hf⟩ := h
  obtain ⟨xs, n, _, _, hl, hlen, hf⟩ := DataW.trod_struct Tryz.underlying137 hf
  match xs, hlen with
  | [y0, y1, y2, y3, y4, y5], _ =>
  have k0 := hf 0 _ rfl
  have k1 := hf 1 _ rfl
  have k2 := hf 2 _ rfl
  have k3 := hf 3 _ rfl
  have k4 := hf 4 _ rfl
  have k5 := hf 5 _ rfl
  have e3 : Tryz.prog.cellsOf 3 = 1 := by kernel_rfl
  have e4 : Tryz.prog.cellsOf 4 = 1 := by kernel_rfl
  simp [Value.cells, e3, e4] at k0 k1 k2 k3 k4 k5
  obtain ⟨a0, h0, _, wa⟩ := DataW.trod_int Tryz.underlying3 k0
  obtain ⟨a1, h1, _, wb⟩ := DataW.trod_int Tryz.underlying3 k1
  obtain ⟨a2, h2, _, wc⟩ := DataW.trod_int Tryz.underlying3 k2
  obtain ⟨a3, h3, _⟩ := DataW.trod_bool Tryz.underlying4 k3
  obtain ⟨a4, h4, _⟩ := DataW.trod_bool Tryz.underlying4 k4
  obtain ⟨a5, h5, _⟩ := DataW.trod_bool Tryz.underlying4 k5
  simp at h0 h1 h2 h3 h4 h5
  subst h0 h1 h2 h3 h4 h5
  exact ⟨a0, a1, a2, a3, a4, a5, rfl, wa, wb, wc⟩


theorem array3 {α : Type} {cs : Array α} (h : cs.size = 3) : ∃ c0 c1 c2, cs = #[c0, c1, c2] := by
  obtain ⟨l⟩ := cs
  match l, h with
  | [c0, c1, c2], _ => exact ⟨c0, c1, c2, rfl⟩

set_option maxRecDepth 100000 in
theorem open_mem {H : Type} {enc : TypeId × Value → H} {w : World} {base b0 : Nat} {held : Bool} {r : Reach} {v : Value} {d : DataW H} {p : List MemPlace}
    (hv : Value.okWide Tryz.prog w r b0 53 v) (h : DataW.Trod enc Tryz.prog w base (fun _ => true) held 53 v d p) :
    ∃ (a1 a2 a3 : Option Addr) (n1 c1 n2 c2 n3 c3 : Nat) (x1 x2 x3 : List Int), v = .agg #[.slice a1 n1 c1, .slice a2 n2 c2, .slice a3 n3 c3] ∧ BS w a1 n1 c1 x1 ∧ BS w a2 n2 c2 x2 ∧ BS w a3 n3 c3 x3 := by
  obtain ⟨cs, rfl, hsz⟩ := okWide_struct Tryz.underlying53 hv
  obtain ⟨c0, c1, c2, rfl⟩ := array3 (hsz.trans (by kernel_rfl))
  obtain ⟨fuel, hf⟩ := h
  obtain ⟨xs, n, _, _, hl, hlen, hf⟩ := DataW.trod_struct Tryz.underlying53 hf
  match xs, hlen with
  | [y0, y1, y2], _ =>
  have k0 := hf 0 _ rfl
  have k1 := hf 1 _ rfl
  have k2 := hf 2 _ rfl
  have e3 : Tryz.prog.cellsOf 22 = 1 := by kernel_rfl
  simp [Value.cells, e3] at k0 k1 k2
  obtain ⟨a1, n1, d1, x1, e1, b1⟩ := bs_of_trod k0
  obtain ⟨a2, n2, d2, x2, e2, b2⟩ := bs_of_trod k1
  obtain ⟨a3, n3, d3, x3, e3, b3⟩ := bs_of_trod k2
  simp at e1 e2 e3
  subst e1 e2 e3
  exact ⟨a1, a2, a3, n1, d1, n2, d2, n3, d3, x1, x2, x3, rfl, b1, b2, b3⟩
end Go.Proofs.YtngdgogjlpjjpadGreat

namespace Go.Proofs.YtngdgogjlpjjpadGreat
open Go.ChangeShapes Go.WideShapes Go.ChangeAt Go.RowKit
set_option linter.unusedVariables false

theorem array4c {α : Type} {cs : Array α} (h : cs.size = 4) : ∃ c0 c1 c2 c3, cs = #[c0, c1, c2, c3] := by
  obtain ⟨l⟩ := cs
  match l, h with
  | [c0, c1, c2, c3], _ => exact ⟨c0, c1, c2, c3, rfl⟩

set_option maxRecDepth 100000 in
theorem open_config {H : Type} {enc : TypeId × Value → H} {w : World} {base b0 : Nat} {spare : Nat → Bool} {held : Bool} {r : Reach} {v : Value} {d : DataW H} {p : List MemPlace}
    (hv : Value.okWide Tryz.prog w r b0 83 v) (h : DataW.Trod enc Tryz.prog w base spare held 83 v d p) :
    ∃ (o d a i : Int), v = .agg #[.int .i64 o, .int .i64 d, .int .i64 a, .int .i64 i] := by
  obtain ⟨cs, rfl, hsz⟩ := okWide_struct Tryz.underlying83 hv
  obtain ⟨c0, c1, c2, c3, rfl⟩ := array4c (hsz.trans (by kernel_rfl))
  obtain ⟨fuel, hf⟩ := h
  obtain ⟨xs, n, _, _, hl, hlen, hf⟩ := DataW.trod_struct Tryz.underlying83 hf
  match xs, hlen with
  | [y0, y1, y2, y3], _ =>
  have k0 := hf 0 _ rfl
  have k1 := hf 1 _ rfl
  have k2 := hf 2 _ rfl
  have k3 := hf 3 _ rfl
  have e3 : Tryz.prog.cellsOf 3 = 1 := by kernel_rfl
  simp [Value.cells, e3] at k0 k1 k2 k3
  obtain ⟨a0, h0, _, wa⟩ := DataW.trod_int Tryz.underlying3 k0
  obtain ⟨a1, h1, _, wb⟩ := DataW.trod_int Tryz.underlying3 k1
  obtain ⟨a2, h2, _, wc⟩ := DataW.trod_int Tryz.underlying3 k2
  obtain ⟨a3, h3, _, wd⟩ := DataW.trod_int Tryz.underlying3 k3
  simp at h0 h1 h2 h3
  subst h0 h1 h2 h3
  exact ⟨a0, a1, a2, a3, rfl⟩
end Go.Proofs.YtngdgogjlpjjpadGreat
