import Derived.Test.YtngdgogjlpjjpacK02
import Derived.Test.YtngdgogjlpjjpacK00
import Derived.Deep.QuietTactic
import Derived.BigQuiet
namespace Go.Proofs.Ytngdgogjlpjjpac
open Go.RowKit
set_option linter.unusedVariables false
set_option linter.unusedSimpArgs false
set_option maxRecDepth 100000

set_option maxHeartbeats 1000000 in
theorem cut_any (s : ByteArray) (w : World) (hs : s.size ≤ 1048576) :
    Calls Try.prog 113 #[.string s, .string ⟨#[46]⟩] w fun e w' => e = .returned (.tuple #[.string (if 0 ≤ dot s then cutA s else s), .string (if 0 ≤ dot s then cutB s else ⟨#[]⟩), .bool (decide (0 ≤ dot s))]) ∧ Below w.heap.size w w' := by
  have HC := hide (fun w => slCut_any s w hs)
  generalize (if 0 ≤ dot s then cutA s else s) = A at *
  generalize (if 0 ≤ dot s then cutB s else ⟨#[]⟩) = B at *
  generalize decide (0 ≤ dot s) = C at *
  go_enter Try.func113, Try.ntmps113
  go_wp2_with (go_at_call 138; refine (HC.out _).mono ?_; rintro e w1 ⟨rfl, hb1⟩)
  go_ret3
  exact ⟨rfl, hb1⟩

theorem nmo_none : nmo ⟨#[]⟩ = false := rfl
/-- WHAT cutImport GIVES. -/
def cutV (s : ByteArray) : Value := if full s then .tuple #[.string (cutA s), .string (cutB s), .bool true] else .tuple #[.string ⟨#[]⟩, .string ⟨#[]⟩, .bool false]

set_option maxHeartbeats 1000000 in
theorem cutImport_any (s : ByteArray) (w : World) (hs : s.size ≤ 1048576) :
    Calls Try.prog 57 #[.string s] w fun e w' => e = .returned (cutV s) ∧ Below w.heap.size w w' := by
  have HC := hide (fun w => cut_any s w hs)
  obtain ⟨V, hV⟩ : ∃ V, V = cutV s := ⟨_, rfl⟩
  rw [← hV]
  unfold cutV full at hV
  have hA : (if 0 ≤ dot s then cutA s else s).size ≤ 1048576 := by split; exact cutA_size s hs; exact hs
  have hB : (if 0 ≤ dot s then cutB s else ⟨#[]⟩).size ≤ 1048576 := by split; exact cutB_size s hs; exact (by decide)
  have HA := hide (fun w => isName_any _ w hA)
  have HB := hide (fun w => isName_any _ w hB)
  have hV' : V = if nmo (if 0 ≤ dot s then cutA s else s) && nmo (if 0 ≤ dot s then cutB s else ⟨#[]⟩) then .tuple #[.string (if 0 ≤ dot s then cutA s else s), .string (if 0 ≤ dot s then cutB s else ⟨#[]⟩), .bool true] else .tuple #[.string ⟨#[]⟩, .string ⟨#[]⟩, .bool false] := by
    by_cases h : 0 ≤ dot s
    · simp only [h, if_true, decide_true, Bool.true_and] at hV ⊢
      exact hV
    · simp only [h, if_false, decide_false, Bool.false_and, nmo_none, Bool.and_false] at hV ⊢
      exact hV
  clear hV hA hB
  generalize (if 0 ≤ dot s then cutA s else s) = A at *
  generalize (if 0 ≤ dot s then cutB s else ⟨#[]⟩) = B at *
  generalize decide (0 ≤ dot s) = C at *
  generalize nmo A = a at *
  generalize nmo B = b at *
  have HV := hide hV'
  clear hV'
  cases a
  · obtain rfl : V = .tuple #[.string ⟨#[]⟩, .string ⟨#[]⟩, .bool false] := HV.out
    go_enter Try.func57, Try.ntmps57
    go_wp2_with fail
    refine (HC.out _).mono ?_
    rintro e w1 ⟨rfl, hb1⟩
    go_wp2_with fail
    refine (HA.out _).mono ?_
    rintro e w2 ⟨rfl, rfl⟩
    go_wp2
    go_ret3
    exact ⟨rfl, hb1⟩
  · cases b
    · obtain rfl : V = .tuple #[.string ⟨#[]⟩, .string ⟨#[]⟩, .bool false] := HV.out
      go_enter Try.func57, Try.ntmps57
      go_wp2_with fail
      refine (HC.out _).mono ?_
      rintro e w1 ⟨rfl, hb1⟩
      go_wp2_with fail
      refine (HA.out _).mono ?_
      rintro e w2 ⟨rfl, rfl⟩
      go_wp2_with fail
      refine (HB.out _).mono ?_
      rintro e w2 ⟨rfl, rfl⟩
      go_wp2
      go_ret3
      exact ⟨rfl, hb1⟩
    · obtain rfl : V = .tuple #[.string A, .string B, .bool true] := HV.out
      go_enter Try.func57, Try.ntmps57
      go_wp2_with fail
      refine (HC.out _).mono ?_
      rintro e w1 ⟨rfl, hb1⟩
      go_wp2_with fail
      refine (HA.out _).mono ?_
      rintro e w2 ⟨rfl, rfl⟩
      go_wp2_with fail
      refine (HB.out _).mono ?_
      rintro e w2 ⟨rfl, rfl⟩
      go_wp2
      go_ret3
      exact ⟨rfl, hb1⟩
end Go.Proofs.Ytngdgogjlpjjpac

namespace Go.Proofs.Ytngdgogjlpjjpac
open Go.RowKit
set_option linter.unusedVariables false

/-- A SLICE OF BYTES THAT READS AS zs. -/
def BS (w : World) (a : Option Addr) (n cap : Nat) (zs : List Int) : Prop :=
  zs.length = n ∧ n ≤ maxLen ∧ (∀ z ∈ zs, 0 ≤ z ∧ z ≤ 255) ∧ (n ≠ 0 → ∃ b off, a = some ⟨b, off, none⟩ ∧ ∀ i, i < n → w.cell? ⟨b, off + i, none⟩ = some (.int .u8 (zs.getD i 0))) ∧ n ≤ cap

theorem BS.below {w w' : World} {a : Option Addr} {n cap : Nat} {zs : List Int} (h : BS w a n cap zs) (hb : Below w.heap.size w w') : BS w' a n cap zs := by
  obtain ⟨h1, h2, h3, h4, h5⟩ := h
  refine ⟨h1, h2, h3, fun hn => ?_, h5⟩
  obtain ⟨b, off, ha, hc⟩ := h4 hn
  refine ⟨b, off, ha, fun i hi => ?_⟩
  have := hc i hi
  rw [hb.cell (p := ⟨b, off + i, none⟩) (World.block_lt_of_cell? w _ this)]
  exact this

theorem BS.range {w : World} {a : Option Addr} {n cap : Nat} {zs : List Int} (h : BS w a n cap zs) (i : Nat) : 0 ≤ zs.getD i 0 ∧ zs.getD i 0 ≤ 255 := by
  by_cases hi : i < zs.length
  · have := h.2.2.1 zs[i] (List.getElem_mem hi)
    simpa [List.getD_eq_getElem?_getD, hi] using this
  · simp [List.getD_eq_getElem?_getD, Nat.le_of_not_lt hi]

/-- A ROW OF BYTES OF THE CALL's OWN: the whole block g. -/
def Row8 (w : World) (g : Nat) (zs : List Int) : Prop := w.heap[g]? = some (.cells (zs.map (Value.int .u8)).toArray 5 (0, 0))

theorem Row8.cell {w : World} {g : Nat} {zs : List Int} (h : Row8 w g zs) (i : Nat) (hi : i < zs.length) : w.cell? ⟨g, i, none⟩ = some (.int .u8 (zs.getD i 0)) := by
  rw [cell_of_row w g i _ _ _ h]; simp [List.getD_eq_getElem?_getD, hi]
theorem Row8.frozen {w : World} {g : Nat} {zs : List Int} (h : Row8 w g zs) (i : Nat) : w.frozen? ⟨g, i, none⟩ = false := frozen_of_row w g i _ _ h
theorem Row8.set {w : World} {g : Nat} {zs : List Int} (h : Row8 w g zs) (i : Nat) (z : Int) : Row8 (w.setCell ⟨g, i, none⟩ (.int .u8 z)) g (zs.set i z) := by
  unfold Row8 at *
  rw [heap_setCell_same w g i _ _ _ h]
  simp [List.map_set]
theorem Row8.lt {w : World} {g : Nat} {zs : List Int} (h : Row8 w g zs) : g < w.heap.size := by
  unfold Row8 at h
  by_cases hg : g < w.heap.size
  · exact hg
  · simp [Array.getElem?_eq_none (Nat.le_of_not_lt hg)] at h
theorem Row8.below {w w' : World} {g : Nat} {zs : List Int} (h : Row8 w g zs) (hb : Below w.heap.size w w') : Row8 w' g zs := by
  have := hb.block g h.lt
  unfold Row8 at *
  rw [this]; exact h
theorem Row8.bs {w : World} {g : Nat} {zs : List Int} (h : Row8 w g zs) (hm : zs.length ≤ maxLen) (hz : ∀ z ∈ zs, 0 ≤ z ∧ z ≤ 255) (n cap : Nat) (hn : zs.length = n) (hc : n ≤ cap := by exact Nat.le_refl _) : BS w (some ⟨g, 0, none⟩) n cap zs := by
  subst hn
  exact ⟨rfl, hm, hz, fun _ => ⟨g, 0, rfl, fun i hi => by rw [Nat.zero_add]; exact h.cell i hi⟩, hc⟩

/-- A WHOLE BLOCK OF CELLS, NOT FROZEN. -/
def Blk (w : World) (g : Nat) (cs : Array Value) (t : TypeId) : Prop := w.heap[g]? = some (.cells cs t (0, 0))
theorem Blk.cell {w : World} {g : Nat} {cs : Array Value} {t : TypeId} (h : Blk w g cs t) (i : Nat) : w.cell? ⟨g, i, none⟩ = cs[i]? := cell_of_row w g i _ _ _ h
theorem Blk.frozen {w : World} {g : Nat} {cs : Array Value} {t : TypeId} (h : Blk w g cs t) (i : Nat) : w.frozen? ⟨g, i, none⟩ = false := frozen_of_row w g i _ _ h
theorem Blk.lt {w : World} {g : Nat} {cs : Array Value} {t : TypeId} (h : Blk w g cs t) : g < w.heap.size := by
  unfold Blk at h
  by_cases hg : g < w.heap.size
  · exact hg
  · simp [Array.getElem?_eq_none (Nat.le_of_not_lt hg)] at h
theorem Blk.below {w w' : World} {g : Nat} {cs : Array Value} {t : TypeId} (h : Blk w g cs t) (hb : Below w.heap.size w w') : Blk w' g cs t := by
  have := hb.block g h.lt
  unfold Blk at *
  rw [this]; exact h
theorem Blk.new (w : World) (cs : Array Value) (t : TypeId) : Blk (w.alloc (.cells cs t)) w.heap.size cs t := heap_alloc_new w _
theorem Blk.alloc {w : World} {g : Nat} {cs : Array Value} {t : TypeId} (h : Blk w g cs t) (o : Obj) : Blk (w.alloc o) g cs t := by
  have hl := h.lt; unfold Blk at *; rw [Below.heap_alloc _ _ _ hl]; exact h
theorem Blk.set {w : World} {g : Nat} {cs : Array Value} {t : TypeId} (h : Blk w g cs t) (i : Nat) (v : Value) : Blk (w.setCell ⟨g, i, none⟩ v) g (cs.setIfInBounds i v) t := heap_setCell_same w g i _ _ _ h
theorem Blk.other {w : World} {g : Nat} {cs : Array Value} {t : TypeId} (h : Blk w g cs t) (a : Addr) (v : Value) (hg : g ≠ a.block) : Blk (w.setCell a v) g cs t := by
  unfold Blk at *; rw [heap_setCell_other _ _ _ _ hg]; exact h
theorem Row8.blk {w : World} {g : Nat} {zs : List Int} : Row8 w g zs = Blk w g (zs.map (Value.int .u8)).toArray 5 := rfl
theorem Row8.other {w : World} {g : Nat} {zs : List Int} (h : Row8 w g zs) (a : Addr) (v : Value) (hg : g ≠ a.block) : Row8 (w.setCell a v) g zs := Blk.other h a v hg
theorem Row8.alloc {w : World} {g : Nat} {zs : List Int} (h : Row8 w g zs) (o : Obj) : Row8 (w.alloc o) g zs := Blk.alloc h o
theorem size_setCell (w : World) (a : Addr) (v : Value) : (w.setCell a v).heap.size = w.heap.size := by simp [World.setCell]

theorem undrew {w w' : World} (h : Below w.drew.heap.size w.drew w') : Below w.heap.size w w' := ⟨h.os, h.tape, h.output, h.size, h.block⟩

/-- what toByteS has laid behind k rounds -/
def mid (zs : List Int) (k : Nat) : List Int := (List.range zs.length).map (fun i => if i < k then zs.getD i 0 else 0)
theorem mid_len (zs : List Int) (k : Nat) : (mid zs k).length = zs.length := by simp [mid]
theorem mid_zero (zs : List Int) : mid zs 0 = List.replicate zs.length 0 := by
  apply List.ext_getElem
  · simp [mid]
  · intro i h1 h2; simp [mid]
theorem mid_all (zs : List Int) : mid zs zs.length = zs := by
  apply List.ext_getElem
  · simp [mid]
  · intro i h1 h2; simp [mid, h2]
theorem mid_set (zs : List Int) (k : Nat) (h : k < zs.length) : (mid zs k).set k (zs.getD k 0) = mid zs (k + 1) := by
  apply List.ext_getElem
  · simp [mid]
  · intro i h1 h2
    simp only [mid, List.getElem_set, List.getElem_map, List.getElem_range]
    by_cases hik : k = i
    · subst hik; simp
    · by_cases h3 : i < k
      · simp [hik, h3, show i < k + 1 by omega]
      · simp [hik, h3, show ¬ i < k + 1 by omega]
end Go.Proofs.Ytngdgogjlpjjpac
