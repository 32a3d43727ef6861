import Derived.Deep.RegionHeld3
import Derived.Test.YtngdgogjlpjjpacP04
import Derived.Test.YtngdgogjlpjjpacP07
namespace Go.Proofs.Ytngdgogjlpjjpac
open Go.RowKit
set_option linter.unusedVariables false
set_option maxRecDepth 100000
theorem IS.at {w : World} {b off n cap : Nat} {zs : List Int} (h : IS w (Option.some ⟨b, off, none⟩) n cap zs) (i : Nat) (hi : i < n) : w.cell? ⟨b, off + i, none⟩ = Option.some (.int .i64 (zs.getD i 0)) := by
  obtain ⟨b', off', e, hd⟩ := h.2.2.2.1 (by omega)
  simp at e
  obtain ⟨rfl, rfl⟩ := e
  exact hd i hi
theorem IS.addr {w : World} {a : Option Addr} {n cap : Nat} {zs : List Int} (h : IS w a n cap zs) (hn : n ≠ 0) : ∃ b off, a = some ⟨b, off, none⟩ := by
  obtain ⟨b, off, e, _⟩ := h.2.2.2.1 hn
  exact ⟨b, off, e⟩
def OI (w : World) (base : Nat) (v : Value) (zs : List Int) : Prop := w.ownsRow base 3 1 v zs.length (zs.map (Value.int .i64)) ∧ ∀ z ∈ zs, wfi z
theorem OI.below {w w' : World} {base : Nat} {v : Value} {zs : List Int} (h : OI w base v zs) (hb : Below w.heap.size w w') : OI w' base v zs := by
  refine ⟨?_, h.2⟩
  obtain ⟨hl, h0 | ⟨g, cap, cur, hv, hg, hh, h1, h2, h3, h4⟩⟩ := h.1
  · exact ⟨hl, .inl h0⟩
  · refine ⟨hl, .inr ⟨g, cap, cur, hv, hg, ?_, h1, h2, h3, h4⟩⟩
    exact Blk.below (w := w) hh hb
theorem OI.mono {w : World} {base base' : Nat} {v : Value} {zs : List Int} (h : OI w base v zs) (hb : base' ≤ base) : OI w base' v zs := by
  refine ⟨?_, h.2⟩
  obtain ⟨hl, h0 | ⟨g, cap, cur, hv, hg, hh, h1, h2, h3, h4⟩⟩ := h.1
  · exact ⟨hl, .inl h0⟩
  · exact ⟨hl, .inr ⟨g, cap, cur, hv, by omega, hh, h1, h2, h3, h4⟩⟩
theorem OI.other {w : World} {base : Nat} {v : Value} {zs : List Int} (h : OI w base v zs) (a : Addr) (u : Value) (ha : a.block < base) : OI (w.setCell a u) base v zs := by
  refine ⟨?_, h.2⟩
  obtain ⟨hl, h0 | ⟨g, cap, cur, hv, hg, hh, h1, h2, h3, h4⟩⟩ := h.1
  · exact ⟨hl, .inl h0⟩
  · exact ⟨hl, .inr ⟨g, cap, cur, hv, hg, Blk.other (w := w) hh a u (by omega), h1, h2, h3, h4⟩⟩
theorem OI.lt {w : World} {base : Nat} {v : Value} {zs : List Int} (h : OI w base v zs) : ∀ k, v.ownBlock = some k → base ≤ k ∧ k < w.heap.size := h.1.lt
def RoomI (w : World) (g n : Nat) : Prop := ∃ cur, Blk w g cur 3 ∧ n ≤ cur.size
theorem RoomI.cell {w : World} {g n : Nat} (h : RoomI w g n) (i : Nat) (hi : i < n) : ∃ u, w.cell? ⟨g, i, none⟩ = some u := by
  obtain ⟨cur, hb, hn⟩ := h
  rw [hb.cell]
  exact ⟨cur[i], by simp⟩
theorem RoomI.frozen {w : World} {g n : Nat} (h : RoomI w g n) (i : Nat) : w.frozen? ⟨g, i, none⟩ = false := by
  obtain ⟨cur, hb, hn⟩ := h
  exact hb.frozen i
theorem RoomI.set {w : World} {g n : Nat} (h : RoomI w g n) (i : Nat) (u : Value) : RoomI (w.setCell ⟨g, i, none⟩ u) g n := by
  obtain ⟨cur, hb, hn⟩ := h
  exact ⟨_, hb.set i u, by simpa using hn⟩
end Go.Proofs.Ytngdgogjlpjjpac
