import Derived.Test.YtngdgogjlpjjpacK31
import Derived.Test.YtngdgogjlpjjpacK50
import Derived.Deep.Slices
namespace Go.Proofs.Ytngdgogjlpjjpac
open Go.ChangeShapes Go.WideShapes Go.ChangeAt Go.RowKit
set_option linter.unusedVariables false

theorem addM (b off i : Nat) : (Addr.add ⟨b, off, none⟩ i) = ⟨b, off + i, none⟩ := by
  simp only [Addr.add]
  split
  · next h => subst h; rfl
  · rfl
set_option maxRecDepth 100000 in
theorem ints_of_trod {H : Type} {enc : TypeId × Value → H} {w : World} {base : Nat} {held : Bool} {fuel : Nat} {cs : List Value} {x : DataW H × List MemPlace}
    (h : DataW.trod enc Try.prog w base (fun _ => true) held fuel 46 cs = some x) : ∃ a n cap zs, cs = [.slice a n cap] ∧ IS w a n cap zs := by
  rcases open_ints Try.underlying46 Try.underlying3 (by kernel_rfl) h with ⟨hcs, _⟩ | ⟨x, l, c, zs, hcs, _, hl, hm, hz, _, hcell, hwz⟩
  · exact ⟨none, 0, 0, [], hcs, rfl, Nat.zero_le _, by simp, fun h => absurd rfl h, Nat.le_refl _⟩
  · simp at hz
    refine ⟨some x, l, c, zs.take l, hcs, by simp; omega, by omega, fun z hz' => wf_i64 (hwz z (List.mem_of_mem_take hz')), fun hl0 => ?_, hl⟩
    obtain ⟨b, off, spot⟩ := x
    have hspot : spot = none := by simpa [Addr.add] using World.cell?_spot (hcell 0 (by omega))
    subst hspot
    refine ⟨b, off, rfl, fun i hi => ?_⟩
    have := hcell i (by omega)
    rw [addM] at this
    rw [this]
    simp [List.getD_eq_getElem?_getD, hi]

set_option maxRecDepth 100000 in
theorem bks_of_trod {H : Type} {enc : TypeId × Value → H} {w : World} {base : Nat} {held : Bool} {fuel : Nat} {cs : List Value} {x : DataW H × List MemPlace}
    (h : DataW.trod enc Try.prog w base (fun _ => true) held fuel 47 cs = some x) : ∃ a n cap bl, cs = [.slice a n cap] ∧ BKS w a n cap bl := by
  have e1 : Try.prog.cellsOf 46 = 1 := by kernel_rfl
  rcases Deep.open_slice Try.underlying47 h with ⟨hcs, _⟩ | ⟨a, len, cap, m, n, D, Pl, hcs, hb, hl, hm, hmm, hx, hd⟩
  · exact ⟨none, 0, 0, [], hcs, rfl, Nat.zero_le _, fun h => absurd rfl h, fun i hi => by omega, Nat.le_refl _⟩
  · simp at hmm
    rw [hmm] at hd
    rw [e1] at hd
    obtain ⟨G, hG⟩ := Deep.choose_lt (α := Bk) (p := fun i g => (∃ cs', w.cells? base (a.add (i * 1)) 1 = some cs' ∧ cs' = [Value.slice g.1 g.2.1 g.2.2.1]) ∧ IS w g.1 g.2.1 g.2.2.1 g.2.2.2) (n := len) (fun i hi => by
      obtain ⟨cs', h1, h2⟩ := hd i (by omega)
      obtain ⟨a', n', c', zs', e, hI⟩ := ints_of_trod h2
      exact ⟨(a', n', c', zs'), ⟨cs', h1, e⟩, hI⟩)
    have hgi : ∀ i, i < len → ((List.range len).map G).getD i zB = G i := fun i hi => by simp [List.getD_eq_getElem?_getD, hi]
    refine ⟨some a, len, cap, (List.range len).map G, hcs, by simp, by omega, ?_, fun i hi => by rw [hgi i hi]; exact (hG i hi).2, hl⟩
    intro hn
    obtain ⟨b, off, spot⟩ := a
    have hspot : spot = none := by
      obtain ⟨⟨cs', h1, h2⟩, _⟩ := hG 0 (by omega)
      have := (World.cells?_some h1).2.2 0 (by omega)
      rw [h2] at this
      simpa [Addr.add] using World.cell?_spot this
    subst hspot
    refine ⟨b, off, rfl, fun i hi => ?_⟩
    obtain ⟨⟨cs', h1, h2⟩, _⟩ := hG i hi
    have hc := (World.cells?_some h1).2.2
    rw [h2] at hc
    rw [hgi i hi]
    simp only [addM] at hc
    simpa using hc 0 (by omega)

set_option maxRecDepth 100000 in
theorem ts_of_trod {H : Type} {enc : TypeId × Value → H} {w : World} {base : Nat} {held : Bool} {fuel : Nat} {cs : List Value} {x : DataW H × List MemPlace}
    (h : DataW.trod enc Try.prog w base (fun _ => true) held fuel 48 cs = some x) : ∃ a n cap ss, cs = [.slice a n cap] ∧ TS w a n cap ss := by
  have e1 : Try.prog.cellsOf 9 = 1 := by kernel_rfl
  have ez : zS.size ≤ maxLen := by decide
  rcases Deep.open_slice Try.underlying48 h with ⟨hcs, _⟩ | ⟨a, len, cap, m, n, D, Pl, hcs, hb, hl, hm, hmm, hx, hd⟩
  · exact ⟨none, 0, 0, [], hcs, rfl, Nat.zero_le _, fun i => by simpa using ez, fun h => absurd rfl h, Nat.le_refl _⟩
  · simp at hmm
    rw [hmm] at hd
    rw [e1] at hd
    obtain ⟨G, hG⟩ := Deep.choose_lt (α := ByteArray) (p := fun i g => (∃ cs', w.cells? base (a.add (i * 1)) 1 = some cs' ∧ cs' = [Value.string g]) ∧ g.size ≤ maxLen) (n := len) (fun i hi => by
      obtain ⟨cs', h1, h2⟩ := hd i (by omega)
      obtain ⟨s, e, _, hI⟩ := DataW.trod_string Try.underlying9 h2
      exact ⟨s, ⟨cs', h1, e⟩, hI⟩)
    have hgi : ∀ i, i < len → ((List.range len).map G).getD i zS = G i := fun i hi => by simp [List.getD_eq_getElem?_getD, hi]
    refine ⟨some a, len, cap, (List.range len).map G, hcs, by simp, by omega, fun i => ?_, ?_, hl⟩
    · by_cases hi : i < len
      · rw [hgi i hi]; exact (hG i hi).2
      · rw [List.getD_eq_getElem?_getD, List.getElem?_eq_none (by simp; omega)]; exact ez
    intro hn
    obtain ⟨b, off, spot⟩ := a
    have hspot : spot = none := by
      obtain ⟨⟨cs', h1, h2⟩, _⟩ := hG 0 (by omega)
      have := (World.cells?_some h1).2.2 0 (by omega)
      rw [h2] at this
      simpa [Addr.add] using World.cell?_spot this
    subst hspot
    refine ⟨b, off, rfl, fun i hi => ?_⟩
    obtain ⟨⟨cs', h1, h2⟩, _⟩ := hG i hi
    have hc := (World.cells?_some h1).2.2
    rw [h2] at hc
    rw [hgi i hi]
    simp only [addM] at hc
    simpa using hc 0 (by omega)

set_option maxRecDepth 100000 in
theorem export_cells {H : Type} {enc : TypeId × Value → H} {w : World} {base : Nat} {held : Bool} {spare : Nat → Bool} {fuel : Nat} {cs : List Value} {x : DataW H × List MemPlace}
    (h : DataW.trod enc Try.prog w base spare held fuel 131 cs = some x) : ∃ g : Ex, cs = [.string g.1, .int .i64 g.2.1, .int .i64 g.2.2] ∧ g.1.size ≤ maxLen := by
  obtain ⟨xs, n, _, _, hl, hlen, hf⟩ := DataW.trod_struct Try.underlying131 h
  have e6 : Try.prog.cellsOf 131 = 3 := by kernel_rfl
  rw [e6] at hl
  match xs, hlen, cs, hl with
  | [y0, y1, y2], _, [c0, c1, c2], _ =>
  have k0 := hf 0 _ rfl
  have k1 := hf 1 _ rfl
  have k2 := hf 2 _ rfl
  have e3 : Try.prog.cellsOf 3 = 1 := by kernel_rfl
  have e4 : Try.prog.cellsOf 9 = 1 := by kernel_rfl
  simp [e3, e4] at k0 k1 k2
  obtain ⟨a0, h0, _, wa⟩ := DataW.trod_string Try.underlying9 k0
  obtain ⟨a1, h1, _, wb⟩ := DataW.trod_int Try.underlying3 k1
  obtain ⟨a2, h2, _, wc⟩ := DataW.trod_int Try.underlying3 k2
  simp at h0 h1 h2
  subst h0 h1 h2
  exact ⟨(a0, a1, a2), rfl, wa⟩

set_option maxRecDepth 100000 in
theorem te_of_trod {H : Type} {enc : TypeId × Value → H} {w : World} {base : Nat} {held : Bool} {fuel : Nat} {cs : List Value} {x : DataW H × List MemPlace}
    (h : DataW.trod enc Try.prog w base (fun _ => true) held fuel 49 cs = some x) : ∃ a n cap es, cs = [.slice a n cap] ∧ TE w a n cap es := by
  have e1 : Try.prog.cellsOf 131 = 3 := by kernel_rfl
  have ez : (zE).1.size ≤ maxLen := by decide
  rcases Deep.open_slice Try.underlying49 h with ⟨hcs, _⟩ | ⟨a, len, cap, m, n, D, Pl, hcs, hb, hl, hm, hmm, hx, hd⟩
  · exact ⟨none, 0, 0, [], hcs, rfl, Nat.zero_le _, fun i => by simpa using ez, fun h => absurd rfl h, Nat.le_refl _⟩
  · simp at hmm
    rw [hmm] at hd
    rw [e1] at hd
    obtain ⟨G, hG⟩ := Deep.choose_lt (α := Ex) (p := fun i g => (∃ cs', w.cells? base (a.add (i * 3)) 3 = some cs' ∧ cs' = [.string g.1, .int .i64 g.2.1, .int .i64 g.2.2]) ∧ g.1.size ≤ maxLen) (n := len) (fun i hi => by
      obtain ⟨cs', h1, h2⟩ := hd i (by omega)
      obtain ⟨s, e, hI⟩ := export_cells h2
      exact ⟨s, ⟨cs', h1, e⟩, hI⟩)
    have hgi : ∀ i, i < len → ((List.range len).map G).getD i zE = G i := fun i hi => by simp [List.getD_eq_getElem?_getD, hi]
    refine ⟨some a, len, cap, (List.range len).map G, hcs, by simp, by omega, fun i => ?_, ?_, hl⟩
    · by_cases hi : i < len
      · rw [hgi i hi]; exact (hG i hi).2
      · rw [List.getD_eq_getElem?_getD, List.getElem?_eq_none (by simp; omega)]; exact ez
    intro hn
    obtain ⟨b, off, spot⟩ := a
    have hspot : spot = none := by
      obtain ⟨⟨cs', h1, h2⟩, _⟩ := hG 0 (by omega)
      have := (World.cells?_some h1).2.2 0 (by omega)
      rw [h2] at this
      simpa [Addr.add] using World.cell?_spot this
    subst hspot
    refine ⟨b, off, rfl, fun i hi => ?_⟩
    obtain ⟨⟨cs', h1, h2⟩, _⟩ := hG i hi
    have hc := (World.cells?_some h1).2.2
    rw [h2] at hc
    rw [hgi i hi]
    simp only [addM] at hc
    exact ⟨hc 0 (by omega), hc 1 (by omega), hc 2 (by omega)⟩

theorem array8 {α : Type} {cs : Array α} (h : cs.size = 8) : ∃ c0 c1 c2 c3 c4 c5 c6 c7, cs = #[c0, c1, c2, c3, c4, c5, c6, c7] := by
  obtain ⟨l⟩ := cs
  match l, h with
  | [c0, c1, c2, c3, c4, c5, c6, c7], _ => exact ⟨c0, c1, c2, c3, c4, c5, c6, c7, rfl⟩

set_option maxRecDepth 100000 in
theorem open_module {H : Type} {enc : TypeId × Value → H} {w : World} {base b0 : Nat} {held : Bool} {r : Reach} {v : Value} {d : DataW H} {p : List MemPlace}
    (hv : Value.okWide Try.prog w r b0 51 v) (h : DataW.Trod enc Try.prog w base (fun _ => true) held 51 v d p) :
    ∃ (nm : ByteArray) (ta : Option Addr) (tn tc : Nat) (tz : List Int) (ba : Option Addr) (bn bc : Nat) (bl : List Bk) (da : Option Addr) (dn dc : Nat) (dz : List Int) (bss : Int) (ra : Option Addr) (rn rc : Nat) (rz : List Int) (ia : Option Addr) (im ic : Nat) (ss : List ByteArray) (ea : Option Addr) (en ec : Nat) (es : List Ex),
      v = .agg #[.string nm, .slice ta tn tc, .slice ba bn bc, .slice da dn dc, .int .i64 bss, .slice ra rn rc, .slice ia im ic, .slice ea en ec] ∧ MT w nm ta tn tc tz ba bn bc bl da dn dc dz bss ra rn rc rz ia im ic ss ea en ec es := by
  obtain ⟨cs, rfl, hsz⟩ := okWide_struct Try.underlying51 hv
  obtain ⟨c0, c1, c2, c3, c4, c5, c6, c7, rfl⟩ := array8 (hsz.trans (by kernel_rfl))
  obtain ⟨fuel, hf⟩ := h
  obtain ⟨xs, n, _, _, hl, hlen, hf⟩ := DataW.trod_struct Try.underlying51 hf
  match xs, hlen with
  | [y0, y1, y2, y3, y4, y5, y6, y7], _ =>
  have k0 := hf 0 _ rfl
  have k1 := hf 1 _ rfl
  have k2 := hf 2 _ rfl
  have k3 := hf 3 _ rfl
  have k4 := hf 4 _ rfl
  have k5 := hf 5 _ rfl
  have k6 := hf 6 _ rfl
  have k7 := hf 7 _ rfl
  have e1 : Try.prog.cellsOf 3 = 1 := by kernel_rfl
  have e2 : Try.prog.cellsOf 9 = 1 := by kernel_rfl
  have e3 : Try.prog.cellsOf 46 = 1 := by kernel_rfl
  have e4 : Try.prog.cellsOf 47 = 1 := by kernel_rfl
  have e5 : Try.prog.cellsOf 22 = 1 := by kernel_rfl
  have e6 : Try.prog.cellsOf 48 = 1 := by kernel_rfl
  have e7 : Try.prog.cellsOf 49 = 1 := by kernel_rfl
  simp [Value.cells, e1, e2, e3, e4, e5, e6, e7] at k0 k1 k2 k3 k4 k5 k6 k7
  obtain ⟨nm, h0, _, w0⟩ := DataW.trod_string Try.underlying9 k0
  obtain ⟨ta, tn, tc, tz, h1, w1⟩ := ints_of_trod k1
  obtain ⟨ba, bn, bc, bl, h2, w2⟩ := bks_of_trod k2
  obtain ⟨da, dn, dc, dz, h3, w3⟩ := bs_of_trod k3
  obtain ⟨bss, h4, _, w4⟩ := DataW.trod_int Try.underlying3 k4
  obtain ⟨ra, rn, rc, rz, h5, w5⟩ := ints_of_trod k5
  obtain ⟨ia, im, ic, ss, h6, w6⟩ := ts_of_trod k6
  obtain ⟨ea, en, ec, es, h7, w7⟩ := te_of_trod k7
  simp at h0 h1 h2 h3 h4 h5 h6 h7
  subst h0 h1 h2 h3 h4 h5 h6 h7
  exact ⟨nm, ta, tn, tc, tz, ba, bn, bc, bl, da, dn, dc, dz, bss, ra, rn, rc, rz, ia, im, ic, ss, ea, en, ec, es, rfl, w0, w1, w2, w3, wf_i64 w4, w5, w6, w7⟩
end Go.Proofs.Ytngdgogjlpjjpac
