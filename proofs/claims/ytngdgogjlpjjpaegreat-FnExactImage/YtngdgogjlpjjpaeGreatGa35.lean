import Derived.Test.YtngdgogjlpjjpaeGreatGa34
import Derived.Test.YtngdgogjlpjjpaeGreatGa00
import Derived.ProofKit
import Derived.OpenShut
import Derived.ShutString
import Derived.ChangeOld
import Derived.Test.YtngdgogjlpjjpaeGreatGa06
import Derived.Deep.Slices
import Derived.Test.YtngdgogjlpjjpaeGreatGa10
import Derived.ChangeMaps5
namespace Go.Proofs.YtngdgogjlpjjpaeGreat
open Go.RowKit Classical
set_option linter.unusedVariables false
set_option linter.unusedSimpArgs false
set_option maxRecDepth 100000

theorem drew_sz2 (w : World) : w.drew.heap.size = w.heap.size := rfl
structure Z4 (zc : Array Value) (t : TypeId) (n : Nat) (ms : List Md) (L : Lay) (W0 X : World) (o : Option Nat) (g : Nat) (m : List Md) (b0 : Option Addr) (d0 : Nat) (ys : List PB) (b2 : Option Addr) (d2 : Nat) (b5 : Option Addr) (d5 : Nat) (us : List TB) : Prop where
  z : Z2 zc t n ms W0 X o g m
  y : LayO X W0.heap.size L b0 d0 ys b2 d2 b5 d5 us
section
variable {zc : Array Value} {t : TypeId} {n g : Nat} {ms m : List Md} {L : Lay} {W0 X Y : World} {o : Option Nat} {b0 : Option Addr} {d0 : Nat} {ys : List PB} {b2 : Option Addr} {d2 : Nat} {b5 : Option Addr} {d5 : Nat} {us : List TB}
theorem Z4.below (h : Z4 zc t n ms L W0 X o g m b0 d0 ys b2 d2 b5 d5 us) (hb : Below X.heap.size X Y) : Z4 zc t n ms L W0 Y o g m b0 d0 ys b2 d2 b5 d5 us := ⟨h.z.below hb, h.y.below' hb⟩
theorem Z4.drew (h : Z4 zc t n ms L W0 X o g m b0 d0 ys b2 d2 b5 d5 us) : Z4 zc t n ms L W0 X.drew o g m b0 d0 ys b2 d2 b5 d5 us := ⟨h.z.drew, h.y.below' (Below.refl _ _).drew⟩
theorem Z4.box (h : Z4 zc t n ms L W0 X none g m b0 d0 ys b2 d2 b5 d5 us) : Z4 zc t n ms L W0 (X.alloc (.cells zc t)) (some X.heap.size) g m b0 d0 ys b2 d2 b5 d5 us := ⟨h.z.box, h.y.below' ((Below.refl _ _).alloc (Nat.le_refl _) _)⟩
end
theorem LyT.lr {w : World} {L : Lay} {a0 : Option Addr} {c0 : Nat} {xs : List PB} {a2 : Option Addr} {c2 : Nat} {a5 : Option Addr} {c5 : Nat} {ts : List TB} (h : LyT w L a0 c0 xs a2 c2 a5 c5 ts) (hs : lySz L xs ts ≤ 1048576) : LayR L where
  p := by
    intro x hx
    rw [← h.ps] at hx
    obtain ⟨y, hy, rfl⟩ := List.mem_map.1 hx
    obtain ⟨i, hi, rfl⟩ := List.getElem_of_mem hy
    have := (h.p.2.2.2.1 i hi).2.2.1
    simpa [List.getD_eq_getElem?_getD, hi] using this
  s := h.s.2.2.1
  n := by
    have l1 : L.places.length = xs.length := by rw [← h.ps, List.length_map]
    have l2 : L.targets.length = ts.length := by rw [← h.tt, List.length_map]
    unfold lySz plSz tsSz at hs
    refine ⟨by omega, by omega, fun x hx => ?_⟩
    rw [← h.tt] at hx
    obtain ⟨y, hy, rfl⟩ := List.mem_map.1 hx
    obtain ⟨i, hi, rfl⟩ := List.getElem_of_mem hy
    have := upS_le (fun j => (ts.getD j zTB).1.length) ts.length i hi
    have e : ts.getD i zTB = ts[i] := by simp [List.getD_eq_getElem?_getD, hi]
    simp only [e] at this
    omega
theorem rowm_cnt3 {W w : World} {c n cap : Nat} {a : Option Addr} {ms ms' : List Md} (h : RowM W c n ms ms') (hl : ms'.length = n) (hm : MS w a n cap ms) : upS (cntM ms' (fun i => bnF (ms'.getD i zMd))) n ≤ 3 * (n + upS (fun j => (ms.getD j zMd).size) n) := by
  have key : ∀ i, i < n → cntM ms' (fun i => bnF (ms'.getD i zMd)) i ≤ 2 + 3 * (ms.getD i zMd).size := fun i hi => by
    have hc := (h.2.2 i (by omega)).2
    have e1 := (copy_rws (hm.2.2.2.1 i hi) hc).2
    have e2 : (ms'.getD i zMd).tn = (ms.getD i zMd).tn ∧ (ms'.getD i zMd).bn = (ms.getD i zMd).bn ∧ (ms'.getD i zMd).dn = (ms.getD i zMd).dn ∧ (ms'.getD i zMd).rn = (ms.getD i zMd).rn ∧ (ms'.getD i zMd).im = (ms.getD i zMd).im ∧ (ms'.getD i zMd).en = (ms.getD i zMd).en := by
      obtain ⟨g1, g2, g3, g5, g6, g7, gs, e, _⟩ := hc
      rw [e]
      exact ⟨rfl, rfl, rfl, rfl, rfl, rfl⟩
    obtain ⟨f1, f2, f3, f4, f5, f6⟩ := e2
    have e3 : (ms.getD i zMd).size = (ms.getD i zMd).nm.size + (ms.getD i zMd).tn + ((ms.getD i zMd).bn + upS (fun j => ((ms.getD i zMd).bl.getD j zB).2.1) (ms.getD i zMd).bn) + (ms.getD i zMd).dn + (ms.getD i zMd).rn + ((ms.getD i zMd).im + upS (fun j => ((ms.getD i zMd).ss.getD j zS).size) (ms.getD i zMd).im) + ((ms.getD i zMd).en + upS (fun j => ((ms.getD i zMd).es.getD j zE).1.size) (ms.getD i zMd).en) := rfl
    unfold cntM
    rw [e1, f1, f3, f4, f5, f6, e3]
    omega
  have hsum : ∀ q, q ≤ n → upS (cntM ms' (fun i => bnF (ms'.getD i zMd))) q ≤ 2 * q + 3 * upS (fun j => (ms.getD j zMd).size) q := by
    intro q
    induction q with
    | zero => intro _; simp [upS]
    | succ q ih =>
      intro hq
      have h1 := ih (by omega)
      have h2 := key q (by omega)
      show upS _ q + cntM ms' (fun i => bnF (ms'.getD i zMd)) q ≤ 2 * (q + 1) + 3 * (upS _ q + (ms.getD q zMd).size)
      omega
  have := hsum n (Nat.le_refl _)
  omega
end Go.Proofs.YtngdgogjlpjjpaeGreat

namespace Go.Proofs.YtngdgogjlpjjpaeGreat
open Go.ChangeShapes Go.WideShapes Go.ChangeAt Go.RowKit Classical
set_option linter.unusedVariables false

theorem own : ownKnob Tryz.prog.godebug = none := by kernel_rfl
theorem laidOut : laidOutB Tryz.prog = true := by kernel_rfl

theorem wf_u8 {z : Int} (h : (Lit.int .u8 z).wf = true) : 0 ≤ z ∧ z ≤ 255 := by
  simp [Lit.wf, IntKind.min, IntKind.max, IntKind.signed, IntKind.bits] at h
  omega

theorem wf_i64 {z : Int} (h : (Lit.int .i64 z).wf = true) : -9223372036854775808 ≤ z ∧ z ≤ 9223372036854775807 := by
  simp [Lit.wf, IntKind.min, IntKind.max, IntKind.signed, IntKind.bits] at h
  omega

set_option maxRecDepth 100000 in
theorem bs_of_trod {H : Type} {enc : TypeId × Value → H} {w : World} {base : Nat} {held : Bool} {fuel : Nat} {cs : List Value} {x : DataW H × List MemPlace}
    (h : DataW.trod enc Tryz.prog w base (fun _ => true) held fuel 41 cs = some x) : ∃ a n cap zs, cs = [.slice a n cap] ∧ BS w a n cap zs := by
  rcases open_ints Tryz.underlying41 Tryz.underlying5 (by kernel_rfl) h with ⟨hcs, _⟩ | ⟨x, l, c, zs, hcs, _, hl, hm, hz, _, hcell, hwz⟩
  · exact ⟨none, 0, 0, [], hcs, rfl, Nat.zero_le _, by simp, fun h => absurd rfl h, Nat.le_refl _⟩
  · simp at hz
    refine ⟨some x, l, c, zs.take l, hcs, by simp; omega, by omega, fun z hz' => wf_u8 (hwz z (List.mem_of_mem_take hz')), fun hl0 => ?_, hl⟩
    obtain ⟨b, off, spot⟩ := x
    have hspot : spot = none := by simpa [Addr.add] using World.cell?_spot (hcell 0 (by omega))
    subst hspot
    refine ⟨b, off, rfl, fun i hi => ?_⟩
    have := hcell i (by omega)
    have ea : (Addr.add ⟨b, off, none⟩ i) = ⟨b, off + i, none⟩ := by
      simp only [Addr.add]
      split
      · next h => subst h; rfl
      · rfl
    rw [ea] at this
    rw [this]
    simp [List.getD_eq_getElem?_getD, hi]

set_option maxRecDepth 100000 in
theorem open_bytes {H : Type} {enc : TypeId × Value → H} {w : World} {base b0 : Nat} {held : Bool} {r : Reach} {v : Value} {d : DataW H} {p : List MemPlace}
    (hv : Value.okWide Tryz.prog w r b0 41 v) (h : DataW.Trod enc Tryz.prog w base (fun _ => true) held 41 v d p) :
    ∃ a n cap zs, v = .slice a n cap ∧ BS w a n cap zs := by
  obtain ⟨a0, len0, cap0, rfl⟩ := okWide_slice Tryz.underlying41 hv
  obtain ⟨fuel, hf⟩ := h
  obtain ⟨a, n, cap, zs, hcs, hb⟩ := bs_of_trod hf
  simp [Value.cells] at hcs
  obtain ⟨rfl, rfl, rfl⟩ := hcs
  exact ⟨_, _, _, zs, rfl, hb⟩

end Go.Proofs.YtngdgogjlpjjpaeGreat

namespace Go.Proofs.YtngdgogjlpjjpaeGreat
open Go.ChangeShapes Go.WideShapes Go.ChangeAt Go.RowKit Classical
set_option linter.unusedVariables false

theorem addM (b off i : Nat) : (Addr.add ⟨b, off, none⟩ i) = ⟨b, off + i, none⟩ := by
  simp only [Addr.add]
  split
  · next h => subst h; rfl
  · rfl
set_option maxRecDepth 100000 in
theorem ints_of_trod {H : Type} {enc : TypeId × Value → H} {w : World} {base : Nat} {held : Bool} {fuel : Nat} {cs : List Value} {x : DataW H × List MemPlace}
    (h : DataW.trod enc Tryz.prog w base (fun _ => true) held fuel 24 cs = some x) : ∃ a n cap zs, cs = [.slice a n cap] ∧ IS w a n cap zs := by
  rcases open_ints Tryz.underlying24 Tryz.underlying3 (by kernel_rfl) h with ⟨hcs, _⟩ | ⟨x, l, c, zs, hcs, _, hl, hm, hz, _, hcell, hwz⟩
  · exact ⟨none, 0, 0, [], hcs, rfl, Nat.zero_le _, by simp, fun h => absurd rfl h, Nat.le_refl _⟩
  · simp at hz
    refine ⟨some x, l, c, zs.take l, hcs, by simp; omega, by omega, fun z hz' => wf_i64 (hwz z (List.mem_of_mem_take hz')), fun hl0 => ?_, hl⟩
    obtain ⟨b, off, spot⟩ := x
    have hspot : spot = none := by simpa [Addr.add] using World.cell?_spot (hcell 0 (by omega))
    subst hspot
    refine ⟨b, off, rfl, fun i hi => ?_⟩
    have := hcell i (by omega)
    rw [addM] at this
    rw [this]
    simp [List.getD_eq_getElem?_getD, hi]

set_option maxRecDepth 100000 in
theorem bks_of_trod {H : Type} {enc : TypeId × Value → H} {w : World} {base : Nat} {held : Bool} {fuel : Nat} {cs : List Value} {x : DataW H × List MemPlace}
    (h : DataW.trod enc Tryz.prog w base (fun _ => true) held fuel 93 cs = some x) : ∃ a n cap bl, cs = [.slice a n cap] ∧ BKS w a n cap bl := by
  have e1 : Tryz.prog.cellsOf 24 = 1 := by kernel_rfl
  rcases Deep.open_slice Tryz.underlying93 h with ⟨hcs, _⟩ | ⟨a, len, cap, m, n, D, Pl, hcs, hb, hl, hm, hmm, hx, hd⟩
  · exact ⟨none, 0, 0, [], hcs, rfl, Nat.zero_le _, fun h => absurd rfl h, fun i hi => by omega, Nat.le_refl _⟩
  · simp at hmm
    rw [hmm] at hd
    rw [e1] at hd
    obtain ⟨G, hG⟩ := Deep.choose_lt (α := Bk) (p := fun i g => (∃ cs', w.cells? base (a.add (i * 1)) 1 = some cs' ∧ cs' = [Value.slice g.1 g.2.1 g.2.2.1]) ∧ IS w g.1 g.2.1 g.2.2.1 g.2.2.2) (n := len) (fun i hi => by
      obtain ⟨cs', h1, h2⟩ := hd i (by omega)
      obtain ⟨a', n', c', zs', e, hI⟩ := ints_of_trod h2
      exact ⟨(a', n', c', zs'), ⟨cs', h1, e⟩, hI⟩)
    have hgi : ∀ i, i < len → ((List.range len).map G).getD i zB = G i := fun i hi => by simp [List.getD_eq_getElem?_getD, hi]
    refine ⟨some a, len, cap, (List.range len).map G, hcs, by simp, by omega, ?_, fun i hi => by rw [hgi i hi]; exact (hG i hi).2, hl⟩
    intro hn
    obtain ⟨b, off, spot⟩ := a
    have hspot : spot = none := by
      obtain ⟨⟨cs', h1, h2⟩, _⟩ := hG 0 (by omega)
      have := (World.cells?_some h1).2.2 0 (by omega)
      rw [h2] at this
      simpa [Addr.add] using World.cell?_spot this
    subst hspot
    refine ⟨b, off, rfl, fun i hi => ?_⟩
    obtain ⟨⟨cs', h1, h2⟩, _⟩ := hG i hi
    have hc := (World.cells?_some h1).2.2
    rw [h2] at hc
    rw [hgi i hi]
    simp only [addM] at hc
    simpa using hc 0 (by omega)

set_option maxRecDepth 100000 in
theorem ts_of_trod {H : Type} {enc : TypeId × Value → H} {w : World} {base : Nat} {held : Bool} {fuel : Nat} {cs : List Value} {x : DataW H × List MemPlace}
    (h : DataW.trod enc Tryz.prog w base (fun _ => true) held fuel 94 cs = some x) : ∃ a n cap ss, cs = [.slice a n cap] ∧ TS w a n cap ss := by
  have e1 : Tryz.prog.cellsOf 9 = 1 := by kernel_rfl
  have ez : zS.size ≤ maxLen := by decide
  rcases Deep.open_slice Tryz.underlying94 h with ⟨hcs, _⟩ | ⟨a, len, cap, m, n, D, Pl, hcs, hb, hl, hm, hmm, hx, hd⟩
  · exact ⟨none, 0, 0, [], hcs, rfl, Nat.zero_le _, fun i => by simpa using ez, fun h => absurd rfl h, Nat.le_refl _⟩
  · simp at hmm
    rw [hmm] at hd
    rw [e1] at hd
    obtain ⟨G, hG⟩ := Deep.choose_lt (α := ByteArray) (p := fun i g => (∃ cs', w.cells? base (a.add (i * 1)) 1 = some cs' ∧ cs' = [Value.string g]) ∧ g.size ≤ maxLen) (n := len) (fun i hi => by
      obtain ⟨cs', h1, h2⟩ := hd i (by omega)
      obtain ⟨s, e, _, hI⟩ := DataW.trod_string Tryz.underlying9 h2
      exact ⟨s, ⟨cs', h1, e⟩, hI⟩)
    have hgi : ∀ i, i < len → ((List.range len).map G).getD i zS = G i := fun i hi => by simp [List.getD_eq_getElem?_getD, hi]
    refine ⟨some a, len, cap, (List.range len).map G, hcs, by simp, by omega, fun i => ?_, ?_, hl⟩
    · by_cases hi : i < len
      · rw [hgi i hi]; exact (hG i hi).2
      · rw [List.getD_eq_getElem?_getD, List.getElem?_eq_none (by simp; omega)]; exact ez
    intro hn
    obtain ⟨b, off, spot⟩ := a
    have hspot : spot = none := by
      obtain ⟨⟨cs', h1, h2⟩, _⟩ := hG 0 (by omega)
      have := (World.cells?_some h1).2.2 0 (by omega)
      rw [h2] at this
      simpa [Addr.add] using World.cell?_spot this
    subst hspot
    refine ⟨b, off, rfl, fun i hi => ?_⟩
    obtain ⟨⟨cs', h1, h2⟩, _⟩ := hG i hi
    have hc := (World.cells?_some h1).2.2
    rw [h2] at hc
    rw [hgi i hi]
    simp only [addM] at hc
    simpa using hc 0 (by omega)

set_option maxRecDepth 100000 in
theorem export_cells {H : Type} {enc : TypeId × Value → H} {w : World} {base : Nat} {held : Bool} {spare : Nat → Bool} {fuel : Nat} {cs : List Value} {x : DataW H × List MemPlace}
    (h : DataW.trod enc Tryz.prog w base spare held fuel 242 cs = some x) : ∃ g : Ex, cs = [.string g.1, .int .i64 g.2.1, .int .i64 g.2.2] ∧ g.1.size ≤ maxLen := by
  obtain ⟨xs, n, _, _, hl, hlen, hf⟩ := DataW.trod_struct Tryz.underlying242 h
  have e6 : Tryz.prog.cellsOf 242 = 3 := by kernel_rfl
  rw [e6] at hl
  match xs, hlen, cs, hl with
  | [y0, y1, y2], _, [c0, c1, c2], _ =>
  have k0 := hf 0 _ rfl
  have k1 := hf 1 _ rfl
  have k2 := hf 2 _ rfl
  have e3 : Tryz.prog.cellsOf 3 = 1 := by kernel_rfl
  have e4 : Tryz.prog.cellsOf 9 = 1 := by kernel_rfl
  simp [e3, e4] at k0 k1 k2
  obtain ⟨a0, h0, _, wa⟩ := DataW.trod_string Tryz.underlying9 k0
  obtain ⟨a1, h1, _, wb⟩ := DataW.trod_int Tryz.underlying3 k1
  obtain ⟨a2, h2, _, wc⟩ := DataW.trod_int Tryz.underlying3 k2
  simp at h0 h1 h2
  subst h0 h1 h2
  exact ⟨(a0, a1, a2), rfl, wa⟩

set_option maxRecDepth 100000 in
theorem te_of_trod {H : Type} {enc : TypeId × Value → H} {w : World} {base : Nat} {held : Bool} {fuel : Nat} {cs : List Value} {x : DataW H × List MemPlace}
    (h : DataW.trod enc Tryz.prog w base (fun _ => true) held fuel 95 cs = some x) : ∃ a n cap es, cs = [.slice a n cap] ∧ TE w a n cap es := by
  have e1 : Tryz.prog.cellsOf 242 = 3 := by kernel_rfl
  have ez : (zE).1.size ≤ maxLen := by decide
  rcases Deep.open_slice Tryz.underlying95 h with ⟨hcs, _⟩ | ⟨a, len, cap, m, n, D, Pl, hcs, hb, hl, hm, hmm, hx, hd⟩
  · exact ⟨none, 0, 0, [], hcs, rfl, Nat.zero_le _, fun i => by simpa using ez, fun h => absurd rfl h, Nat.le_refl _⟩
  · simp at hmm
    rw [hmm] at hd
    rw [e1] at hd
    obtain ⟨G, hG⟩ := Deep.choose_lt (α := Ex) (p := fun i g => (∃ cs', w.cells? base (a.add (i * 3)) 3 = some cs' ∧ cs' = [.string g.1, .int .i64 g.2.1, .int .i64 g.2.2]) ∧ g.1.size ≤ maxLen) (n := len) (fun i hi => by
      obtain ⟨cs', h1, h2⟩ := hd i (by omega)
      obtain ⟨s, e, hI⟩ := export_cells h2
      exact ⟨s, ⟨cs', h1, e⟩, hI⟩)
    have hgi : ∀ i, i < len → ((List.range len).map G).getD i zE = G i := fun i hi => by simp [List.getD_eq_getElem?_getD, hi]
    refine ⟨some a, len, cap, (List.range len).map G, hcs, by simp, by omega, fun i => ?_, ?_, hl⟩
    · by_cases hi : i < len
      · rw [hgi i hi]; exact (hG i hi).2
      · rw [List.getD_eq_getElem?_getD, List.getElem?_eq_none (by simp; omega)]; exact ez
    intro hn
    obtain ⟨b, off, spot⟩ := a
    have hspot : spot = none := by
      obtain ⟨⟨cs', h1, h2⟩, _⟩ := hG 0 (by omega)
      have := (World.cells?_some h1).2.2 0 (by omega)
      rw [h2] at this
      simpa [Addr.add] using World.cell?_spot this
    subst hspot
    refine ⟨b, off, rfl, fun i hi => ?_⟩
    obtain ⟨⟨cs', h1, h2⟩, _⟩ := hG i hi
    have hc := (World.cells?_some h1).2.2
    rw [h2] at hc
    rw [hgi i hi]
    simp only [addM] at hc
    exact ⟨hc 0 (by omega), hc 1 (by omega), hc 2 (by omega)⟩

theorem array8 {α : Type} {cs : Array α} (h : cs.size = 8) : ∃ c0 c1 c2 c3 c4 c5 c6 c7, cs = #[c0, c1, c2, c3, c4, c5, c6, c7] := by
  obtain ⟨l⟩ := cs
  match l, h with
  | [c0, c1, c2, c3, c4, c5, c6, c7], _ => exact ⟨c0, c1, c2, c3, c4, c5, c6, c7, rfl⟩

set_option maxRecDepth 100000 in
theorem open_module {H : Type} {enc : TypeId × Value → H} {w : World} {base b0 : Nat} {held : Bool} {r : Reach} {v : Value} {d : DataW H} {p : List MemPlace}
    (hv : Value.okWide Tryz.prog w r b0 97 v) (h : DataW.Trod enc Tryz.prog w base (fun _ => true) held 97 v d p) :
    ∃ (nm : ByteArray) (ta : Option Addr) (tn tc : Nat) (tz : List Int) (ba : Option Addr) (bn bc : Nat) (bl : List Bk) (da : Option Addr) (dn dc : Nat) (dz : List Int) (bss : Int) (ra : Option Addr) (rn rc : Nat) (rz : List Int) (ia : Option Addr) (im ic : Nat) (ss : List ByteArray) (ea : Option Addr) (en ec : Nat) (es : List Ex),
      v = .agg #[.string nm, .slice ta tn tc, .slice ba bn bc, .slice da dn dc, .int .i64 bss, .slice ra rn rc, .slice ia im ic, .slice ea en ec] ∧ MT w nm ta tn tc tz ba bn bc bl da dn dc dz bss ra rn rc rz ia im ic ss ea en ec es := by
  obtain ⟨cs, rfl, hsz⟩ := okWide_struct Tryz.underlying97 hv
  obtain ⟨c0, c1, c2, c3, c4, c5, c6, c7, rfl⟩ := array8 (hsz.trans (by kernel_rfl))
  obtain ⟨fuel, hf⟩ := h
  obtain ⟨xs, n, _, _, hl, hlen, hf⟩ := DataW.trod_struct Tryz.underlying97 hf
  match xs, hlen with
  | [y0, y1, y2, y3, y4, y5, y6, y7], _ =>
  have k0 := hf 0 _ rfl
  have k1 := hf 1 _ rfl
  have k2 := hf 2 _ rfl
  have k3 := hf 3 _ rfl
  have k4 := hf 4 _ rfl
  have k5 := hf 5 _ rfl
  have k6 := hf 6 _ rfl
  have k7 := hf 7 _ rfl
  have e1 : Tryz.prog.cellsOf 3 = 1 := by kernel_rfl
  have e2 : Tryz.prog.cellsOf 9 = 1 := by kernel_rfl
  have e3 : Tryz.prog.cellsOf 24 = 1 := by kernel_rfl
  have e4 : Tryz.prog.cellsOf 93 = 1 := by kernel_rfl
  have e5 : Tryz.prog.cellsOf 41 = 1 := by kernel_rfl
  have e6 : Tryz.prog.cellsOf 94 = 1 := by kernel_rfl
  have e7 : Tryz.prog.cellsOf 95 = 1 := by kernel_rfl
  simp [Value.cells, e1, e2, e3, e4, e5, e6, e7] at k0 k1 k2 k3 k4 k5 k6 k7
  obtain ⟨nm, h0, _, w0⟩ := DataW.trod_string Tryz.underlying9 k0
  obtain ⟨ta, tn, tc, tz, h1, w1⟩ := ints_of_trod k1
  obtain ⟨ba, bn, bc, bl, h2, w2⟩ := bks_of_trod k2
  obtain ⟨da, dn, dc, dz, h3, w3⟩ := bs_of_trod k3
  obtain ⟨bss, h4, _, w4⟩ := DataW.trod_int Tryz.underlying3 k4
  obtain ⟨ra, rn, rc, rz, h5, w5⟩ := ints_of_trod k5
  obtain ⟨ia, im, ic, ss, h6, w6⟩ := ts_of_trod k6
  obtain ⟨ea, en, ec, es, h7, w7⟩ := te_of_trod k7
  simp at h0 h1 h2 h3 h4 h5 h6 h7
  subst h0 h1 h2 h3 h4 h5 h6 h7
  exact ⟨nm, ta, tn, tc, tz, ba, bn, bc, bl, da, dn, dc, dz, bss, ra, rn, rc, rz, ia, im, ic, ss, ea, en, ec, es, rfl, w0, w1, w2, w3, wf_i64 w4, w5, w6, w7⟩
end Go.Proofs.YtngdgogjlpjjpaeGreat

namespace Go.Proofs.YtngdgogjlpjjpaeGreat
open Go.ChangeShapes Go.WideShapes Go.ChangeAt Go.RowKit Classical
set_option linter.unusedVariables false

set_option maxRecDepth 100000 in
theorem module_cells {H : Type} {enc : TypeId × Value → H} {w : World} {base : Nat} {held : Bool} {fuel : Nat} {cs : List Value} {x : DataW H × List MemPlace}
    (h : DataW.trod enc Tryz.prog w base (fun _ => true) held fuel 97 cs = some x) : ∃ m : Md, cs = m.cells.toList ∧ m.mt w := by
  obtain ⟨xs, n, _, _, hl, hlen, hf⟩ := DataW.trod_struct Tryz.underlying97 h
  have e8 : Tryz.prog.cellsOf 97 = 8 := by kernel_rfl
  rw [e8] at hl
  match xs, hlen, cs, hl with
  | [y0, y1, y2, y3, y4, y5, y6, y7], _, [c0, c1, c2, c3, c4, c5, c6, c7], _ =>
  have k0 := hf 0 _ rfl
  have k1 := hf 1 _ rfl
  have k2 := hf 2 _ rfl
  have k3 := hf 3 _ rfl
  have k4 := hf 4 _ rfl
  have k5 := hf 5 _ rfl
  have k6 := hf 6 _ rfl
  have k7 := hf 7 _ rfl
  have e1 : Tryz.prog.cellsOf 3 = 1 := by kernel_rfl
  have e2 : Tryz.prog.cellsOf 9 = 1 := by kernel_rfl
  have e3 : Tryz.prog.cellsOf 24 = 1 := by kernel_rfl
  have e4 : Tryz.prog.cellsOf 93 = 1 := by kernel_rfl
  have e5 : Tryz.prog.cellsOf 41 = 1 := by kernel_rfl
  have e6 : Tryz.prog.cellsOf 94 = 1 := by kernel_rfl
  have e7 : Tryz.prog.cellsOf 95 = 1 := by kernel_rfl
  simp [e1, e2, e3, e4, e5, e6, e7] at k0 k1 k2 k3 k4 k5 k6 k7
  obtain ⟨nm, h0, _, w0⟩ := DataW.trod_string Tryz.underlying9 k0
  obtain ⟨ta, tn, tc, tz, h1, w1⟩ := ints_of_trod k1
  obtain ⟨ba, bn, bc, bl, h2, w2⟩ := bks_of_trod k2
  obtain ⟨da, dn, dc, dz, h3, w3⟩ := bs_of_trod k3
  obtain ⟨bss, h4, _, w4⟩ := DataW.trod_int Tryz.underlying3 k4
  obtain ⟨ra, rn, rc, rz, h5, w5⟩ := ints_of_trod k5
  obtain ⟨ia, im, ic, ss, h6, w6⟩ := ts_of_trod k6
  obtain ⟨ea, en, ec, es, h7, w7⟩ := te_of_trod k7
  simp at h0 h1 h2 h3 h4 h5 h6 h7
  subst h0 h1 h2 h3 h4 h5 h6 h7
  exact ⟨⟨nm, ta, tn, tc, tz, ba, bn, bc, bl, da, dn, dc, dz, bss, ra, rn, rc, rz, ia, im, ic, ss, ea, en, ec, es⟩, rfl, w0, w1, w2, w3, wf_i64 w4, w5, w6, w7⟩

set_option maxRecDepth 100000 in
theorem ms_of_trod {H : Type} {enc : TypeId × Value → H} {w : World} {base : Nat} {held : Bool} {fuel : Nat} {cs : List Value} {x : DataW H × List MemPlace}
    (h : DataW.trod enc Tryz.prog w base (fun _ => true) held fuel 22 cs = some x) : ∃ a n cap ms, cs = [.slice a n cap] ∧ MS w a n cap ms := by
  have e1 : Tryz.prog.cellsOf 97 = 8 := by kernel_rfl
  rcases Deep.open_slice Tryz.underlying22 h with ⟨hcs, _⟩ | ⟨a, len, cap, m, n, D, Pl, hcs, hb, hl, hm, hmm, hx, hd⟩
  · exact ⟨none, 0, 0, [], hcs, rfl, Nat.zero_le _, fun h => absurd rfl h, fun i hi => by omega, Nat.le_refl _⟩
  · simp at hmm
    rw [hmm] at hd
    rw [e1] at hd
    haveI : Inhabited Md := ⟨zMd⟩
    obtain ⟨G, hG⟩ := Deep.choose_lt (α := Md) (p := fun i g => (∃ cs', w.cells? base (a.add (i * 8)) 8 = some cs' ∧ cs' = g.cells.toList) ∧ g.mt w) (n := len) (fun i hi => by
      obtain ⟨cs', h1, h2⟩ := hd i (by omega)
      obtain ⟨s, e, hI⟩ := module_cells h2
      exact ⟨s, ⟨cs', h1, e⟩, hI⟩)
    have hgi : ∀ i, i < len → ((List.range len).map G).getD i zMd = G i := fun i hi => by simp [List.getD_eq_getElem?_getD, hi]
    refine ⟨some a, len, cap, (List.range len).map G, hcs, by simp, by omega, ?_, fun i hi => by rw [hgi i hi]; exact (hG i hi).2, hl⟩
    intro hn
    obtain ⟨b, off, spot⟩ := a
    have hspot : spot = none := by
      obtain ⟨⟨cs', h1, h2⟩, _⟩ := hG 0 (by omega)
      have := (World.cells?_some h1).2.2 0 (by omega)
      rw [h2] at this
      simpa [Addr.add, Md.cells] using World.cell?_spot this
    subst hspot
    refine ⟨b, off, rfl, fun i hi => ?_⟩
    obtain ⟨⟨cs', h1, h2⟩, _⟩ := hG i hi
    have hc := (World.cells?_some h1).2.2
    rw [h2] at hc
    rw [hgi i hi]
    simp only [addM] at hc
    exact ⟨hc 0 (by omega), hc 1 (by omega), hc 2 (by omega), hc 3 (by omega), hc 4 (by omega), hc 5 (by omega), hc 6 (by omega), hc 7 (by omega)⟩

set_option maxRecDepth 100000 in
theorem open_modules {H : Type} {enc : TypeId × Value → H} {w : World} {base b0 : Nat} {held : Bool} {r : Reach} {v : Value} {d : DataW H} {p : List MemPlace}
    (hv : Value.okWide Tryz.prog w r b0 22 v) (h : DataW.Trod enc Tryz.prog w base (fun _ => true) held 22 v d p) :
    ∃ a n cap ms, v = .slice a n cap ∧ MS w a n cap ms := by
  obtain ⟨a0, len0, cap0, rfl⟩ := okWide_slice Tryz.underlying22 hv
  obtain ⟨fuel, hf⟩ := h
  obtain ⟨a, n, cap, ms, e, hm⟩ := ms_of_trod hf
  simp [Value.cells] at e
  obtain ⟨rfl, rfl, rfl⟩ := e
  exact ⟨_, _, _, ms, rfl, hm⟩
end Go.Proofs.YtngdgogjlpjjpaeGreat
