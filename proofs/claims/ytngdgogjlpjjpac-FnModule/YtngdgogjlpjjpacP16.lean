import Derived.Test.YtngdgogjlpjjpacP06
import Derived.Test.YtngdgogjlpjjpacP11
import Derived.Test.YtngdgogjlpjjpacP12
import Derived.Test.YtngdgogjlpjjpacP13
import Derived.Test.YtngdgogjlpjjpacP14
import Derived.Test.YtngdgogjlpjjpacP15
namespace Go.Proofs.Ytngdgogjlpjjpac
open Go.RowKit
set_option linter.unusedVariables false
theorem l3Ins_fn (zs : List Int) (k : Nat) (hz : ∀ j, 0 ≤ zs.getD j 0 ∧ zs.getD j 0 ≤ 255) :
    ∃ (o d x i : Int) (k' : Nat), (-1 ≤ o ∧ o ≤ 64 ∧ -1 ≤ d ∧ d ≤ 10 ∧ -1 ≤ x ∧ x ≤ 10 ∧ -1 ≤ i ∧ i ≤ 65536) ∧ ∀ (r : Nat) (a : Option Addr) (n c : Nat) (w : World) (h : Rdr w r a n c zs k) (hcode : n ≠ 0 → ∀ b off, a = some ⟨b, off, none⟩ → b < w.heap.size), Calls Try.prog 157 #[.pointer (some ⟨r, 0, none⟩)] w (InsDr w r a n c zs o d x i k') := by
  obtain ⟨v1, E1, z0, z0'⟩ := draw_of hz k
  obtain ⟨op, ho1, ho2, hop⟩ := opTab_at (v1 % 25).toNat (by omega)
  have HOP := hide hop
  clear hop
  refine ⟨op, ?_⟩
  by_cases hu3 : us op = 3
  · exact l3Ins_u3 zs k hz v1 E1 z0 z0' op ho1 ho2 hu3 HOP
  by_cases hu0 : us op = 0
  · exact l3Ins_u0 zs k hz v1 E1 z0 z0' op ho1 ho2 hu0 HOP
  rcases op_cases op with h' | h' | rfl | rfl | rfl | rfl | rfl | rfl | rfl | rfl | rfl | rfl | rfl | rfl | rfl | rfl | rfl | rfl | rfl | rfl | rfl | rfl | rfl | rfl | rfl | rfl | rfl
  · omega
  · omega
  · exact absurd (by decide) hu0
  · exact l3Ins_2 zs k hz v1 E1 z0 z0' HOP
  · exact l3Ins_3 zs k hz v1 E1 z0 z0' HOP
  · exact absurd (by decide) hu3
  · exact absurd (by decide) hu3
  · exact l3Ins_6 zs k hz v1 E1 z0 z0' HOP
  · exact absurd (by decide) hu3
  · exact absurd (by decide) hu3
  · exact absurd (by decide) hu3
  · exact absurd (by decide) hu3
  · exact absurd (by decide) hu3
  · exact absurd (by decide) hu3
  · exact absurd (by decide) hu3
  · exact l3Ins_14 zs k hz v1 E1 z0 z0' HOP
  · exact l3Ins_15 zs k hz v1 E1 z0 z0' HOP
  · exact l3Ins_16 zs k hz v1 E1 z0 z0' HOP
  · exact l3Ins_17 zs k hz v1 E1 z0 z0' HOP
  · exact l3Ins_18 zs k hz v1 E1 z0 z0' HOP
  · exact l3Ins_19 zs k hz v1 E1 z0 z0' HOP
  · exact l3Ins_20 zs k hz v1 E1 z0 z0' HOP
  · exact l3Ins_21 zs k hz v1 E1 z0 z0' HOP
  · exact l3Ins_22 zs k hz v1 E1 z0 z0' HOP
  · exact l3Ins_23 zs k hz v1 E1 z0 z0' HOP
  · exact l3Ins_24 zs k hz v1 E1 z0 z0' HOP
  · exact absurd (by decide) hu0
def Own3 (w : World) (base : Nat) (v1 v2 v3 : Value) (x1 x2 x3 : List Int) : Prop :=
  OB w base v1 x1 ∧ OB w base v2 x2 ∧ OB w base v3 x3 ∧ (∀ k j, v1.ownBlock = some k → v2.ownBlock = some j → k < j) ∧ (∀ k j, v1.ownBlock = some k → v3.ownBlock = some j → k < j) ∧ ∀ k j, v2.ownBlock = some k → v3.ownBlock = some j → k < j
theorem OB.below {w w' : World} {base : Nat} {v : Value} {zs : List Int} (h : OB w base v zs) (hb : Below w.heap.size w w') : OB w' base v zs := by
  refine ⟨?_, h.2⟩
  obtain ⟨hl, h0 | ⟨g, cap, cur, hv, hg, hh, h1, h2, h3, h4⟩⟩ := h.1
  · exact ⟨hl, .inl h0⟩
  · refine ⟨hl, .inr ⟨g, cap, cur, hv, hg, ?_, h1, h2, h3, h4⟩⟩
    exact Blk.below (w := w) hh hb
theorem OB.mono {w : World} {base base' : Nat} {v : Value} {zs : List Int} (h : OB w base v zs) (hb : base' ≤ base) : OB w base' v zs := by
  refine ⟨?_, h.2⟩
  obtain ⟨hl, h0 | ⟨g, cap, cur, hv, hg, hh, h1, h2, h3, h4⟩⟩ := h.1
  · exact ⟨hl, .inl h0⟩
  · exact ⟨hl, .inr ⟨g, cap, cur, hv, by omega, hh, h1, h2, h3, h4⟩⟩
theorem OB.other {w : World} {base : Nat} {v : Value} {zs : List Int} (h : OB w base v zs) (a : Addr) (u : Value) (ha : a.block < base) : OB (w.setCell a u) base v zs := by
  refine ⟨?_, h.2⟩
  obtain ⟨hl, h0 | ⟨g, cap, cur, hv, hg, hh, h1, h2, h3, h4⟩⟩ := h.1
  · exact ⟨hl, .inl h0⟩
  · exact ⟨hl, .inr ⟨g, cap, cur, hv, hg, Blk.other (w := w) hh a u (by omega), h1, h2, h3, h4⟩⟩
theorem OB.lt {w : World} {base : Nat} {v : Value} {zs : List Int} (h : OB w base v zs) : ∀ k, v.ownBlock = some k → base ≤ k ∧ k < w.heap.size := h.1.lt
theorem OB.bs {w : World} {base n cap : Nat} {a : Option Addr} {zs : List Int} (h : OB w base (.slice a n cap) zs) : BS w a n cap zs := by
  obtain ⟨hl, ⟨h0, h0'⟩ | ⟨g, cap', cur, hv, hg, hh, h1, h2, h3, h4⟩⟩ := h.1
  · simp at h0
    obtain ⟨rfl, rfl, rfl⟩ := h0
    exact ⟨h0', Nat.zero_le _, h.2, fun hn => absurd rfl hn, Nat.le_refl _⟩
  · simp at hv
    obtain ⟨rfl, rfl, rfl⟩ := hv
    refine ⟨rfl, by omega, h.2, fun hn => ⟨g, 0, rfl, fun i hi => ?_⟩, h1⟩
    rw [Nat.zero_add, Blk.cell (w := w) hh]
    have : cur.toList[i]? = (zs.map (Value.int .u8))[i]? := by
      rw [← h4, List.getElem?_take, if_pos (by omega)]
    rw [Array.getElem?_toList] at this
    rw [this]
    simp [List.getD_eq_getElem?_getD, hi]
end Go.Proofs.Ytngdgogjlpjjpac
