import Derived.Test.YtngdgogjlpjjpaeGreatGa27
import Derived.Test.YtngdgogjlpjjpaeGreatGa35
namespace Go.Proofs.YtngdgogjlpjjpaeGreat
open Go.ChangeShapes Go.WideShapes Go.ChangeAt Go.RowKit Classical
set_option linter.unusedVariables false

set_option maxRecDepth 100000 in
theorem target_cells {H : Type} {enc : TypeId × Value → H} {w : World} {base : Nat} {held : Bool} {spare : Nat → Bool} {fuel : Nat} {cs : List Value} {x : DataW H × List MemPlace}
    (h : DataW.trod enc Tryz.prog w base spare held fuel 67 cs = some x) : ∃ g : Tg, cs = [.int .i64 g.1, .int .i64 g.2.1, .int .i64 g.2.2] := by
  obtain ⟨xs, n, _, _, hl, hlen, hf⟩ := DataW.trod_struct Tryz.underlying67 h
  have e6 : Tryz.prog.cellsOf 67 = 3 := by kernel_rfl
  rw [e6] at hl
  match xs, hlen, cs, hl with
  | [y0, y1, y2], _, [c0, c1, c2], _ =>
  have k0 := hf 0 _ rfl
  have k1 := hf 1 _ rfl
  have k2 := hf 2 _ rfl
  have e3 : Tryz.prog.cellsOf 3 = 1 := by kernel_rfl
  simp [e3] at k0 k1 k2
  obtain ⟨a0, h0, _, wa⟩ := DataW.trod_int Tryz.underlying3 k0
  obtain ⟨a1, h1, _, wb⟩ := DataW.trod_int Tryz.underlying3 k1
  obtain ⟨a2, h2, _, wc⟩ := DataW.trod_int Tryz.underlying3 k2
  simp at h0 h1 h2
  subst h0 h1 h2
  exact ⟨(a0, a1, a2), rfl⟩

set_option maxRecDepth 100000 in
theorem tg_of_trod {H : Type} {enc : TypeId × Value → H} {w : World} {base : Nat} {held : Bool} {fuel : Nat} {cs : List Value} {x : DataW H × List MemPlace}
    (h : DataW.trod enc Tryz.prog w base (fun _ => true) held fuel 179 cs = some x) : ∃ a n cap zs, cs = [.slice a n cap] ∧ TgS w a n cap zs := by
  have e1 : Tryz.prog.cellsOf 67 = 3 := by kernel_rfl
  rcases Deep.open_slice Tryz.underlying179 h with ⟨hcs, _⟩ | ⟨a, len, cap, m, n, D, Pl, hcs, hb, hl, hm, hmm, hx, hd⟩
  · exact ⟨none, 0, 0, [], hcs, rfl, Nat.zero_le _, fun h => absurd rfl h, Nat.le_refl _⟩
  · simp at hmm
    rw [hmm] at hd
    rw [e1] at hd
    obtain ⟨G, hG⟩ := Deep.choose_lt (α := Tg) (p := fun i g => ∃ cs', w.cells? base (a.add (i * 3)) 3 = some cs' ∧ cs' = [.int .i64 g.1, .int .i64 g.2.1, .int .i64 g.2.2]) (n := len) (fun i hi => by
      obtain ⟨cs', h1, h2⟩ := hd i (by omega)
      obtain ⟨s, e⟩ := target_cells h2
      exact ⟨s, cs', h1, e⟩)
    have hgi : ∀ i, i < len → ((List.range len).map G).getD i zT = G i := fun i hi => by simp [List.getD_eq_getElem?_getD, hi]
    refine ⟨some a, len, cap, (List.range len).map G, hcs, by simp, by omega, ?_, hl⟩
    intro hn
    obtain ⟨b, off, spot⟩ := a
    have hspot : spot = none := by
      obtain ⟨cs', h1, h2⟩ := hG 0 (by omega)
      have := (World.cells?_some h1).2.2 0 (by omega)
      rw [h2] at this
      simpa [Addr.add] using World.cell?_spot this
    subst hspot
    refine ⟨b, off, rfl, fun i hi => ?_⟩
    obtain ⟨cs', h1, h2⟩ := hG i hi
    have hc := (World.cells?_some h1).2.2
    rw [h2] at hc
    rw [hgi i hi]
    simp only [addM] at hc
    exact ⟨hc 0 (by omega), hc 1 (by omega), hc 2 (by omega)⟩

set_option maxRecDepth 100000 in
theorem tss_of_trod {H : Type} {enc : TypeId × Value → H} {w : World} {base : Nat} {held : Bool} {fuel : Nat} {cs : List Value} {x : DataW H × List MemPlace}
    (h : DataW.trod enc Tryz.prog w base (fun _ => true) held fuel 25 cs = some x) : ∃ a cap ts, cs = [.slice a (List.length ts) cap] ∧ TsS w a ts.length cap ts := by
  have e1 : Tryz.prog.cellsOf 179 = 1 := by kernel_rfl
  rcases Deep.open_slice Tryz.underlying25 h with ⟨hcs, _⟩ | ⟨a, len, cap, m, n, D, Pl, hcs, hb, hl, hm, hmm, hx, hd⟩
  · exact ⟨none, 0, [], hcs, rfl, Nat.zero_le _, fun h => absurd rfl h, fun i hi => absurd hi (by simp), Nat.le_refl _⟩
  · simp at hmm
    rw [hmm] at hd
    rw [e1] at hd
    obtain ⟨G, hG⟩ := Deep.choose_lt (α := TB) (p := fun i g => (∃ cs', w.cells? base (a.add (i * 1)) 1 = some cs' ∧ cs' = [svT g]) ∧ TgS w g.2.1 g.1.length g.2.2 g.1) (n := len) (fun i hi => by
      obtain ⟨cs', h1, h2⟩ := hd i (by omega)
      obtain ⟨a', n', c', zs', e, hI⟩ := tg_of_trod h2
      have hn' := hI.1
      subst hn'
      exact ⟨(zs', a', c'), ⟨cs', h1, e⟩, hI⟩)
    have hgi : ∀ i, i < len → ((List.range len).map G).getD i zTB = G i := fun i hi => by simp [List.getD_eq_getElem?_getD, hi]
    have hll : ((List.range len).map G).length = len := by simp
    refine ⟨some a, cap, (List.range len).map G, by rw [hll]; exact hcs, ?_⟩
    rw [hll]
    refine ⟨by simp, by omega, ?_, fun i hi => by rw [hgi i hi]; exact (hG i hi).2, hl⟩
    intro hn
    obtain ⟨b, off, spot⟩ := a
    have hspot : spot = none := by
      obtain ⟨⟨cs', h1, h2⟩, _⟩ := hG 0 (by omega)
      have := (World.cells?_some h1).2.2 0 (by omega)
      rw [h2] at this
      simpa [Addr.add] using World.cell?_spot this
    subst hspot
    refine ⟨b, off, rfl, fun i hi => ?_⟩
    obtain ⟨⟨cs', h1, h2⟩, _⟩ := hG i hi
    have hc := (World.cells?_some h1).2.2
    rw [h2] at hc
    rw [hgi i hi]
    simp only [addM] at hc
    simpa using hc 0 (by omega)

set_option maxRecDepth 100000 in
theorem place_cells {H : Type} {enc : TypeId × Value → H} {w : World} {base : Nat} {held : Bool} {fuel : Nat} {cs : List Value} {x : DataW H × List MemPlace}
    (h : DataW.trod enc Tryz.prog w base (fun _ => true) held fuel 177 cs = some x) : ∃ g : PB, cs = [.int .i64 g.1.text, svP g, .int .i64 g.1.data, .int .i64 g.1.size] ∧ IS w g.2.1 g.1.banks.length g.2.2 g.1.banks := by
  obtain ⟨xs, n, _, _, hl, hlen, hf⟩ := DataW.trod_struct Tryz.underlying177 h
  have e6 : Tryz.prog.cellsOf 177 = 4 := by kernel_rfl
  rw [e6] at hl
  match xs, hlen, cs, hl with
  | [y0, y1, y2, y3], _, [c0, c1, c2, c3], _ =>
  have k0 := hf 0 _ rfl
  have k1 := hf 1 _ rfl
  have k2 := hf 2 _ rfl
  have k3 := hf 3 _ rfl
  have e3 : Tryz.prog.cellsOf 3 = 1 := by kernel_rfl
  have e4 : Tryz.prog.cellsOf 24 = 1 := by kernel_rfl
  simp [e3, e4] at k0 k1 k2 k3
  obtain ⟨a0, h0, _, wa⟩ := DataW.trod_int Tryz.underlying3 k0
  obtain ⟨ta, tn, tc, tz, h1, w1⟩ := ints_of_trod k1
  obtain ⟨a2, h2, _, wc⟩ := DataW.trod_int Tryz.underlying3 k2
  obtain ⟨a3, h3, _, wd⟩ := DataW.trod_int Tryz.underlying3 k3
  simp at h0 h1 h2 h3
  subst h0 h1 h2 h3
  have hn' := w1.1
  subst hn'
  exact ⟨(⟨a0, tz, a2, a3⟩, ta, tc), rfl, w1⟩

set_option maxRecDepth 100000 in
theorem pls_of_trod {H : Type} {enc : TypeId × Value → H} {w : World} {base : Nat} {held : Bool} {fuel : Nat} {cs : List Value} {x : DataW H × List MemPlace}
    (h : DataW.trod enc Tryz.prog w base (fun _ => true) held fuel 23 cs = some x) : ∃ a cap xs, cs = [.slice a (List.length xs) cap] ∧ PlS w a xs.length cap xs := by
  have e1 : Tryz.prog.cellsOf 177 = 4 := by kernel_rfl
  rcases Deep.open_slice Tryz.underlying23 h with ⟨hcs, _⟩ | ⟨a, len, cap, m, n, D, Pl', hcs, hb, hl, hm, hmm, hx, hd⟩
  · exact ⟨none, 0, [], hcs, rfl, Nat.zero_le _, fun h => absurd rfl h, fun i hi => absurd hi (by simp), Nat.le_refl _⟩
  · simp at hmm
    rw [hmm] at hd
    rw [e1] at hd
    haveI : Inhabited PB := ⟨zPB⟩
    obtain ⟨G, hG⟩ := Deep.choose_lt (α := PB) (p := fun i g => (∃ cs', w.cells? base (a.add (i * 4)) 4 = some cs' ∧ cs' = [.int .i64 g.1.text, svP g, .int .i64 g.1.data, .int .i64 g.1.size]) ∧ IS w g.2.1 g.1.banks.length g.2.2 g.1.banks) (n := len) (fun i hi => by
      obtain ⟨cs', h1, h2⟩ := hd i (by omega)
      obtain ⟨s, e, hI⟩ := place_cells h2
      exact ⟨s, ⟨cs', h1, e⟩, hI⟩)
    have hgi : ∀ i, i < len → ((List.range len).map G).getD i zPB = G i := fun i hi => by simp [List.getD_eq_getElem?_getD, hi]
    have hll : ((List.range len).map G).length = len := by simp
    refine ⟨some a, cap, (List.range len).map G, by rw [hll]; exact hcs, ?_⟩
    rw [hll]
    refine ⟨by simp, by omega, ?_, fun i hi => by rw [hgi i hi]; exact (hG i hi).2, hl⟩
    intro hn
    obtain ⟨b, off, spot⟩ := a
    have hspot : spot = none := by
      obtain ⟨⟨cs', h1, h2⟩, _⟩ := hG 0 (by omega)
      have := (World.cells?_some h1).2.2 0 (by omega)
      rw [h2] at this
      simpa [Addr.add] using World.cell?_spot this
    subst hspot
    refine ⟨b, off, rfl, fun i hi => ?_⟩
    obtain ⟨⟨cs', h1, h2⟩, _⟩ := hG i hi
    have hc := (World.cells?_some h1).2.2
    rw [h2] at hc
    rw [hgi i hi]
    simp only [addM] at hc
    exact ⟨hc 0 (by omega), hc 1 (by omega), hc 2 (by omega), hc 3 (by omega)⟩

theorem array6l {α : Type} {cs : Array α} (h : cs.size = 6) : ∃ c0 c1 c2 c3 c4 c5, cs = #[c0, c1, c2, c3, c4, c5] := by
  obtain ⟨l⟩ := cs
  match l, h with
  | [c0, c1, c2, c3, c4, c5], _ => exact ⟨c0, c1, c2, c3, c4, c5, rfl⟩

set_option maxRecDepth 100000 in
theorem open_layout {H : Type} {enc : TypeId × Value → H} {w : World} {base b0 : Nat} {held : Bool} {r : Reach} {v : Value} {d : DataW H} {p : List MemPlace}
    (hv : Value.okWide Tryz.prog w r b0 27 v) (h : DataW.Trod enc Tryz.prog w base (fun _ => true) held 27 v d p) :
    ∃ (L : Lay) (a0 : Option Addr) (c0 : Nat) (xs : List PB) (a2 : Option Addr) (c2 : Nat) (a5 : Option Addr) (c5 : Nat) (ts : List TB),
      v = .agg #[.slice a0 xs.length c0, .int .i64 L.stack, .slice a2 L.slots.length c2, .int .i64 L.flash, .int .i64 L.ram, .slice a5 ts.length c5] ∧ LyT w L a0 c0 xs a2 c2 a5 c5 ts := by
  obtain ⟨cs, rfl, hsz⟩ := okWide_struct Tryz.underlying27 hv
  obtain ⟨c0, c1, c2, c3, c4, c5, rfl⟩ := array6l (hsz.trans (by kernel_rfl))
  obtain ⟨fuel, hf⟩ := h
  obtain ⟨xs, n, _, _, hl, hlen, hf⟩ := DataW.trod_struct Tryz.underlying27 hf
  match xs, hlen with
  | [y0, y1, y2, y3, y4, y5], _ =>
  have k0 := hf 0 _ rfl
  have k1 := hf 1 _ rfl
  have k2 := hf 2 _ rfl
  have k3 := hf 3 _ rfl
  have k4 := hf 4 _ rfl
  have k5 := hf 5 _ rfl
  have e1 : Tryz.prog.cellsOf 3 = 1 := by kernel_rfl
  have e2 : Tryz.prog.cellsOf 23 = 1 := by kernel_rfl
  have e3 : Tryz.prog.cellsOf 24 = 1 := by kernel_rfl
  have e4 : Tryz.prog.cellsOf 25 = 1 := by kernel_rfl
  simp [Value.cells, e1, e2, e3, e4] at k0 k1 k2 k3 k4 k5
  obtain ⟨a0, d0, xs, h0, w0⟩ := pls_of_trod k0
  obtain ⟨st, h1, _, w1⟩ := DataW.trod_int Tryz.underlying3 k1
  obtain ⟨a2, n2, d2, sl, h2, w2⟩ := ints_of_trod k2
  obtain ⟨fl, h3, _, w3⟩ := DataW.trod_int Tryz.underlying3 k3
  obtain ⟨rm, h4, _, w4⟩ := DataW.trod_int Tryz.underlying3 k4
  obtain ⟨a5, d5, ts, h5, w5⟩ := tss_of_trod k5
  simp at h0 h1 h2 h3 h4 h5
  subst h0 h1 h2 h3 h4 h5
  have hn' := w2.1
  subst hn'
  exact ⟨⟨xs.map (fun x => x.1), st, sl, fl, rm, ts.map (fun x => x.1)⟩, a0, d0, xs, a2, d2, a5, d5, ts, rfl, w0, rfl, w2, w5, rfl, wf_i64 w1, wf_i64 w3, wf_i64 w4⟩
end Go.Proofs.YtngdgogjlpjjpaeGreat
