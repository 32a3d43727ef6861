import Derived.Test.YtngdgogjlpjjpacRd5
import Derived.Test.YtngdgogjlpjjpacTurn
import Derived.Deep.RegionHeld3
namespace Go.Proofs.Ytngdgogjlpjjpac
open Go.RowKit
set_option linter.unusedVariables false

/-- A SLICE OF BYTES OF THE CALL's OWN, from block 'base' on. -/
def OB (w : World) (base : Nat) (v : Value) (zs : List Int) : Prop := w.ownsRow base 5 1 v zs.length (zs.map (Value.int .u8)) ∧ ∀ z ∈ zs, 0 ≤ z ∧ z ≤ 255

theorem bs_news {w : World} {b off n cap : Nat} {zs : List Int} (h : BS w (some ⟨b, off, none⟩) n cap zs) : ∀ j u, (zs.map (Value.int .u8))[j]? = some u → w.cell? ((⟨b, off, none⟩ : Addr).add j) = some u := by
  intro j u hj
  have hl := h.1
  have hjl : j < n := by
    by_cases e : j < n
    · exact e
    · rw [List.getElem?_eq_none (by simp; omega)] at hj; simp at hj
  rw [addr_add, h.at j hjl]
  rw [← hj]
  simp [List.getD_eq_getElem?_getD, show j < zs.length by omega]
theorem own_empty (w : World) : (w.alloc (.cells #[] 5)).ownsRow w.heap.size 5 1 (.slice (some ⟨w.heap.size, 0, none⟩) 0 0) 0 [] :=
  ⟨rfl, .inr ⟨w.heap.size, 0, #[], rfl, Nat.le_refl _, heap_alloc_new w _, Nat.le_refl _, Nat.zero_le _, rfl, rfl⟩⟩
theorem own_shape {w : World} {base n : Nat} {t : TypeId} {v : Value} {xs : List Value} (h : w.ownsRow base t 1 v n xs) : ∃ a cap, v = .slice a n cap := by
  obtain ⟨_, ⟨rfl, rfl⟩ | ⟨g, cap, cur, rfl, _⟩⟩ := h
  · exact ⟨_, _, rfl⟩
  · exact ⟨_, _, rfl⟩
theorem below_grown' {B : Nat} {a w w' : World} {k : Nat} (h : Below B a w) (hg : w.grownBy w' (some k)) (hB : B ≤ w.heap.size) (hk : B ≤ k) : Below B a w' := h.grown hg hB (fun j hj => by cases hj; exact hk)

set_option maxHeartbeats 1000000 in
theorem l1Bytes_any (b off n cap : Nat) (zs : List Int) (w : World) (h : BS w (some ⟨b, off, none⟩) n cap zs) (hn : n ≤ 1048576) :
    Calls Try.prog 108 #[.slice (some ⟨b, off, none⟩) n cap] w fun e w' => ∃ a cap', e = .returned (.slice a n cap') ∧ OB w' w.heap.size (.slice a n cap') zs ∧ Below w.heap.size w w' := by
  obtain ⟨i0, hi, hz0, hz1, hz2⟩ := info_parts info8
  have hl := h.1
  have h' := h.below ((Below.refl w.heap.size w).alloc (Nat.le_refl _) (.cells #[] 5))
  have hnews := hide (bs_news h')
  have hone := hide (ints_oneCell .u8 zs)
  have hown := hide (own_empty w)
  have hlen := hide (show (zs.map (Value.int .u8)).length = n * 1 by simp; omega)
  go_enter Try.func108, Try.ntmps108
  go_wp2_with (at_builtin; refine wpList_append_own _ rfl _ _ 22 rfl w.heap.size 5 i0 (.int .u8 0) 1 1 Try.underlying22 hi hz0 hz1 hz2 rfl (by decide) _ 0 [] rfl hown.out ⟨b, off, none⟩ n cap (zs.map (Value.int .u8)) rfl hlen.out hnews.out hone.out (by unfold maxLen; omega) (by omega) (by simp) ?_; intro v' w1 hown1 hgr1 _)
  simp only [Nat.zero_add, List.nil_append] at hown1
  have hex := own_shape hown1
  go_ret
  obtain ⟨a', cap', he⟩ := hex
  refine ⟨a', cap', by rw [← he]; rfl, ⟨?_, h.2.2.1⟩, ?_⟩
  · rw [hl, ← he]
    exact hown1
  · exact below_grown' ((Below.refl w.heap.size w).alloc (Nat.le_refl _) _) hgr1 (by simp) (Nat.le_refl _)

set_option maxHeartbeats 1000000 in
theorem clone_any (b off n cap : Nat) (zs : List Int) (w : World) (h : BS w (some ⟨b, off, none⟩) n cap zs) (hn : n ≤ 1048576) :
    Calls Try.prog 109 #[.slice (some ⟨b, off, none⟩) n cap] w fun e w' => ∃ a cap', e = .returned (.slice a n cap') ∧ OB w' w.heap.size (.slice a n cap') zs ∧ Below w.heap.size w w' := by
  obtain ⟨i0, hi, hz0, hz1, hz2⟩ := info_parts info8
  have hl := h.1
  have h' := h.below ((Below.refl w.heap.size w).alloc (Nat.le_refl _) (.cells #[] 5))
  have hnews := hide (bs_news h')
  have hone := hide (ints_oneCell .u8 zs)
  have hown := hide (own_empty w)
  have hlen := hide (show (zs.map (Value.int .u8)).length = n * 1 by simp; omega)
  have hnil := fun (w : World) => Lib.run_eql_slice_nil (P := Try.prog) w 22 5 (some ⟨b, off, none⟩) n cap 0 0 Try.underlying22
  go_enter Try.func109, Try.ntmps109
  go_wp2_with (at_builtin; refine wpList_append_own _ rfl _ _ 22 rfl w.heap.size 5 i0 (.int .u8 0) 1 1 Try.underlying22 hi hz0 hz1 hz2 rfl (by decide) _ 0 [] rfl hown.out ⟨b, off, none⟩ n cap (zs.map (Value.int .u8)) rfl hlen.out hnews.out hone.out (by unfold maxLen; omega) (by omega) (by simp) ?_; intro v' w1 hown1 hgr1 _)
  simp only [Nat.zero_add, List.nil_append] at hown1
  have hex := own_shape hown1
  go_ret
  obtain ⟨a', cap', he⟩ := hex
  refine ⟨a', cap', by rw [← he]; rfl, ⟨?_, h.2.2.1⟩, ?_⟩
  · rw [hl, ← he]
    exact hown1
  · exact below_grown' ((Below.refl w.heap.size w).alloc (Nat.le_refl _) _) hgr1 (by simp) (Nat.le_refl _)
end Go.Proofs.Ytngdgogjlpjjpac
