import Derived.Test.YtngdgogjlpjjpacP00
import Derived.Test.YtngdgogjlpjjpacP11
import Derived.Test.YtngdgogjlpjjpacP19
import Derived.Test.YtngdgogjlpjjpacP21
namespace Go.Proofs.Ytngdgogjlpjjpac
open Go.RowKit
set_option linter.unusedVariables false
set_option linter.unusedSimpArgs false
set_option maxRecDepth 100000
def TS (w : World) (a : Option Addr) (n cap : Nat) (ss : List ByteArray) : Prop :=
  ss.length = n ∧ n ≤ maxLen ∧ (∀ i, (ss.getD i zS).size ≤ maxLen) ∧ (n ≠ 0 → ∃ b off, a = some ⟨b, off, none⟩ ∧ ∀ i, i < n → w.cell? ⟨b, off + i, none⟩ = some (.string (ss.getD i zS))) ∧ n ≤ cap
theorem TS.below {w w' : World} {a : Option Addr} {n cap : Nat} {ss : List ByteArray} (h : TS w a n cap ss) (hb : Below w.heap.size w w') : TS w' a n cap ss := by
  obtain ⟨h1, h2, h3, h4, h5⟩ := h
  refine ⟨h1, h2, h3, fun hn => ?_, h5⟩
  obtain ⟨b, off, e, hc⟩ := h4 hn
  exact ⟨b, off, e, fun i hi => (hb.cell (World.block_lt_of_cell? w _ (hc i hi))).trans (hc i hi)⟩
theorem TS.at {w : World} {a : Option Addr} {n cap : Nat} {ss : List ByteArray} (h : TS w a n cap ss) (i : Nat) (hi : i < n) : ∃ b off, a = some ⟨b, off, none⟩ ∧ w.cell? ⟨b, off + i, none⟩ = some (.string (ss.getD i zS)) := by
  obtain ⟨b, off, e, hc⟩ := h.2.2.2.1 (by omega)
  exact ⟨b, off, e, hc i hi⟩
theorem TS.ss {w : World} {a : Option Addr} {n cap : Nat} {ss : List ByteArray} (h : TS w a n cap ss) (hs : upS (fun j => (ss.getD j zS).size) n ≤ 1048576) : SS w a n cap ss := by
  refine ⟨h.1, h.2.1, fun s hm => ?_, h.2.2.2.1, h.2.2.2.2⟩
  obtain ⟨i, hi, rfl⟩ := List.getElem_of_mem hm
  have h1 := upS_mono (fun j => (ss.getD j zS).size) (i + 1) n (by have := h.1; omega)
  have h2 : upS (fun j => (ss.getD j zS).size) (i + 1) = upS (fun j => (ss.getD j zS).size) i + (ss.getD i zS).size := rfl
  have h3 : (ss.getD i zS).size = ss[i].size := by simp [List.getD_eq_getElem?_getD, hi]
  omega
def TE (w : World) (a : Option Addr) (n cap : Nat) (es : List Ex) : Prop :=
  es.length = n ∧ n ≤ maxLen ∧ (∀ i, (es.getD i zE).1.size ≤ maxLen) ∧ (n ≠ 0 → ∃ b off, a = some ⟨b, off, none⟩ ∧ ∀ i, i < n → w.cell? ⟨b, off + i * 3, none⟩ = some (.string (es.getD i zE).1) ∧ w.cell? ⟨b, off + i * 3 + 1, none⟩ = some (.int .i64 (es.getD i zE).2.1) ∧ w.cell? ⟨b, off + i * 3 + 2, none⟩ = some (.int .i64 (es.getD i zE).2.2)) ∧ n ≤ cap
theorem TE.below {w w' : World} {a : Option Addr} {n cap : Nat} {es : List Ex} (h : TE w a n cap es) (hb : Below w.heap.size w w') : TE w' a n cap es := by
  obtain ⟨h1, h2, h3, h4, h5⟩ := h
  refine ⟨h1, h2, h3, fun hn => ?_, h5⟩
  obtain ⟨b, off, e, hc⟩ := h4 hn
  have key : ∀ o v, w.cell? ⟨b, o, none⟩ = some v → w'.cell? ⟨b, o, none⟩ = some v := fun o v hv => (hb.cell (World.block_lt_of_cell? w _ hv)).trans hv
  exact ⟨b, off, e, fun i hi => ⟨key _ _ (hc i hi).1, key _ _ (hc i hi).2.1, key _ _ (hc i hi).2.2⟩⟩
theorem TE.at {w : World} {a : Option Addr} {n cap : Nat} {es : List Ex} (h : TE w a n cap es) (i : Nat) (hi : i < n) : ∃ b off, a = some ⟨b, off, none⟩ ∧ w.cell? ⟨b, off + i * 3, none⟩ = some (.string (es.getD i zE).1) ∧ w.cell? ⟨b, off + i * 3 + 1, none⟩ = some (.int .i64 (es.getD i zE).2.1) ∧ w.cell? ⟨b, off + i * 3 + 2, none⟩ = some (.int .i64 (es.getD i zE).2.2) := by
  obtain ⟨b, off, e, hc⟩ := h.2.2.2.1 (by omega)
  exact ⟨b, off, e, hc i hi⟩
theorem TE.es {w : World} {a : Option Addr} {n cap : Nat} {es : List Ex} (h : TE w a n cap es) (hs : upS (fun j => (es.getD j zE).1.size) n ≤ 1048576) : ES w a n cap es := by
  refine ⟨h.1, h.2.1, fun s hm => ?_, h.2.2.2.1, h.2.2.2.2⟩
  obtain ⟨i, hi, rfl⟩ := List.getElem_of_mem hm
  have h1 := upS_mono (fun j => (es.getD j zE).1.size) (i + 1) n (by have := h.1; omega)
  have h2 : upS (fun j => (es.getD j zE).1.size) (i + 1) = upS (fun j => (es.getD j zE).1.size) i + (es.getD i zE).1.size := rfl
  have h3 : (es.getD i zE).1.size = es[i].1.size := by simp [List.getD_eq_getElem?_getD, hi]
  omega
def RowT (w : World) (g : Nat) (zs : List ByteArray) : Prop := w.heap[g]? = some (.cells (zs.map (Value.string)).toArray 9 (0, 0))
theorem RowT.cell {w : World} {g : Nat} {zs : List ByteArray} (h : RowT w g zs) (i : Nat) (hi : i < zs.length) : w.cell? ⟨g, i, none⟩ = some (.string (zs.getD i zS)) := by
  rw [cell_of_row w g i _ _ _ h]; simp [List.getD_eq_getElem?_getD, hi]
theorem RowT.frozen {w : World} {g : Nat} {zs : List ByteArray} (h : RowT w g zs) (i : Nat) : w.frozen? ⟨g, i, none⟩ = false := frozen_of_row w g i _ _ h
theorem RowT.set {w : World} {g : Nat} {zs : List ByteArray} (h : RowT w g zs) (i : Nat) (z : ByteArray) : RowT (w.setCell ⟨g, i, none⟩ (.string z)) g (zs.set i z) := by
  unfold RowT at *
  rw [heap_setCell_same w g i _ _ _ h]
  simp [List.map_set]
theorem RowT.lt {w : World} {g : Nat} {zs : List ByteArray} (h : RowT w g zs) : g < w.heap.size := by
  unfold RowT at h
  by_cases hg : g < w.heap.size
  · exact hg
  · simp [Array.getElem?_eq_none (Nat.le_of_not_lt hg)] at h
theorem RowT.below {w w' : World} {g : Nat} {zs : List ByteArray} (h : RowT w g zs) (hb : Below w.heap.size w w') : RowT w' g zs := by
  have := hb.block g h.lt
  unfold RowT at *
  rw [this]; exact h
theorem infoT : (Try.prog.info? 9).map (fun i => (i.zero, i.size, i.bytes)) = some (some (.string ⟨#[]⟩), 1, 16) := by kernel_rfl
theorem cellO {w : World} {g o o' b : Nat} {v : Value} (h : b ≠ g ∨ o' ≠ o) : (w.setCell ⟨g, o, none⟩ v).cell? ⟨b, o', none⟩ = w.cell? ⟨b, o', none⟩ :=
  World.cell?_setCell_other _ _ _ _ (by intro e; injection e; rcases h with h | h <;> simp_all)
theorem cellS {w : World} {g o : Nat} {u v : Value} (h : w.cell? ⟨g, o, none⟩ = some u) : (w.setCell ⟨g, o, none⟩ v).cell? ⟨g, o, none⟩ = some v := World.cell?_setCell_same _ _ _ h
def At3 (w : World) (g o : Nat) (x : Ex) : Prop := w.cell? ⟨g, o, none⟩ = some (.string x.1) ∧ w.cell? ⟨g, o + 1, none⟩ = some (.int .i64 x.2.1) ∧ w.cell? ⟨g, o + 2, none⟩ = some (.int .i64 x.2.2)
def set3 (w : World) (g o : Nat) (x : Ex) : World := ((w.setCell ⟨g, o, none⟩ (.string x.1)).setCell ⟨g, o + 1, none⟩ (.int .i64 x.2.1)).setCell ⟨g, o + 2, none⟩ (.int .i64 x.2.2)
theorem set3_other (w : World) (g o b o' : Nat) (r : Ex) (h : b ≠ g ∨ o' < o ∨ o + 3 ≤ o') : (set3 w g o r).cell? ⟨b, o', none⟩ = w.cell? ⟨b, o', none⟩ := by
  unfold set3
  rw [cellO (by omega), cellO (by omega), cellO (by omega)]
theorem set3_at {w : World} {g o : Nat} {q : Ex} (h : At3 w g o q) (r : Ex) : At3 (set3 w g o r) g o r := by
  obtain ⟨h1, h2, h3⟩ := h
  unfold set3
  refine ⟨?_, ?_, ?_⟩
  · rw [cellO (by omega), cellO (by omega)]; exact cellS h1
  · rw [cellO (by omega)]; exact cellS (by rw [cellO (by omega)]; exact h2)
  · exact cellS (by rw [cellO (by omega), cellO (by omega)]; exact h3)
theorem set3_far {w : World} {g o b o' : Nat} {q : Ex} (h : At3 w b o' q) (r : Ex) (hf : b ≠ g ∨ o' + 3 ≤ o ∨ o + 3 ≤ o') : At3 (set3 w g o r) b o' q := by
  unfold At3
  rw [set3_other _ _ _ _ _ _ (by omega), set3_other _ _ _ _ _ _ (by omega), set3_other _ _ _ _ _ _ (by omega)]
  exact h
theorem set3_blk {w : World} {g : Nat} {cur : Array Value} {t : TypeId} (h : Blk w g cur t) (o : Nat) (r : Ex) : ∃ cur', Blk (set3 w g o r) g cur' t ∧ cur'.size = cur.size :=
  ⟨_, (((h.set o _).set (o + 1) _).set (o + 2) _), by simp⟩
theorem At3.below {w w' : World} {g o : Nat} {x : Ex} (h : At3 w g o x) (hb : Below w.heap.size w w') : At3 w' g o x := by
  have key : ∀ o v, w.cell? ⟨g, o, none⟩ = some v → w'.cell? ⟨g, o, none⟩ = some v := fun o v hv => (hb.cell (World.block_lt_of_cell? w _ hv)).trans hv
  exact ⟨key _ _ h.1, key _ _ h.2.1, key _ _ h.2.2⟩
def RowX (w : World) (g : Nat) (es : List Ex) : Prop :=
  (∃ cur, Blk w g cur 86 ∧ cur.size = es.length * 3) ∧ ∀ i, i < es.length → At3 w g (i * 3) (es.getD i zE)
theorem RowX.lt {w : World} {g : Nat} {es : List Ex} (h : RowX w g es) : g < w.heap.size := by obtain ⟨⟨cur, hb, _⟩, _⟩ := h; exact hb.lt
theorem RowX.below {w w' : World} {g : Nat} {es : List Ex} (h : RowX w g es) (hb : Below w.heap.size w w') : RowX w' g es := by
  obtain ⟨⟨cur, hc, hs⟩, hr⟩ := h
  exact ⟨⟨cur, hc.below hb, hs⟩, fun i hi => (hr i hi).below hb⟩
theorem RowX.frozen {w : World} {g : Nat} {es : List Ex} (h : RowX w g es) (i : Nat) : w.frozen? ⟨g, i, none⟩ = false := by obtain ⟨⟨cur, hb, _⟩, _⟩ := h; exact hb.frozen i
theorem RowX.set {w : World} {g : Nat} {es : List Ex} (h : RowX w g es) (i : Nat) (hi : i < es.length) (r : Ex) : RowX (set3 w g (i * 3) r) g (es.set i r) := by
  obtain ⟨⟨cur, hc, hs⟩, hr⟩ := h
  obtain ⟨cur', hc', hs'⟩ := set3_blk hc (i * 3) r
  refine ⟨⟨cur', hc', by rw [hs', hs, List.length_set]⟩, fun j hj => ?_⟩
  rw [List.length_set] at hj
  by_cases e : i = j
  · subst e
    have : (es.set i r).getD i zE = r := by simp [List.getD_eq_getElem?_getD, hi]
    rw [this]
    exact set3_at (hr i hi) r
  · have : (es.set i r).getD j zE = es.getD j zE := by simp [List.getD_eq_getElem?_getD, e]
    rw [this]
    exact set3_far (hr j hj) r (by omega)
theorem infoX : (Try.prog.info? 86).map (fun i => (i.zero, i.size, i.bytes)) = some (some (.agg #[.string ⟨#[]⟩, .int .i64 0, .int .i64 0]), 3, 32) := by kernel_rfl
end Go.Proofs.Ytngdgogjlpjjpac
