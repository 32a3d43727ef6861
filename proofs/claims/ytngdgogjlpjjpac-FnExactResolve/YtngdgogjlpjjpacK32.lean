import Derived.Test.YtngdgogjlpjjpacK31
namespace Go.Proofs.Ytngdgogjlpjjpac
open Go.RowKit
set_option linter.unusedVariables false
set_option linter.unusedSimpArgs false
set_option maxRecDepth 100000

def RowT (w : World) (g : Nat) (zs : List ByteArray) : Prop := w.heap[g]? = some (.cells (zs.map (Value.string)).toArray 9 (0, 0))

theorem RowT.cell {w : World} {g : Nat} {zs : List ByteArray} (h : RowT w g zs) (i : Nat) (hi : i < zs.length) : w.cell? ⟨g, i, none⟩ = some (.string (zs.getD i zS)) := by
  rw [cell_of_row w g i _ _ _ h]; simp [List.getD_eq_getElem?_getD, hi]
theorem RowT.frozen {w : World} {g : Nat} {zs : List ByteArray} (h : RowT w g zs) (i : Nat) : w.frozen? ⟨g, i, none⟩ = false := frozen_of_row w g i _ _ h
theorem RowT.set {w : World} {g : Nat} {zs : List ByteArray} (h : RowT w g zs) (i : Nat) (z : ByteArray) : RowT (w.setCell ⟨g, i, none⟩ (.string z)) g (zs.set i z) := by
  unfold RowT at *
  rw [heap_setCell_same w g i _ _ _ h]
  simp [List.map_set]
theorem RowT.lt {w : World} {g : Nat} {zs : List ByteArray} (h : RowT w g zs) : g < w.heap.size := by
  unfold RowT at h
  by_cases hg : g < w.heap.size
  · exact hg
  · simp [Array.getElem?_eq_none (Nat.le_of_not_lt hg)] at h
theorem RowT.below {w w' : World} {g : Nat} {zs : List ByteArray} (h : RowT w g zs) (hb : Below w.heap.size w w') : RowT w' g zs := by
  have := hb.block g h.lt
  unfold RowT at *
  rw [this]; exact h

theorem infoT : (Try.prog.info? 9).map (fun i => (i.zero, i.size, i.bytes)) = some (some (.string ⟨#[]⟩), 1, 16) := by kernel_rfl

theorem madeT (n : Nat) : (madeCells (Value.cells (.string ⟨#[]⟩)) (n * 1)) = ((List.replicate n zS).map (Value.string)).toArray := by
  apply Array.ext
  · simp [size_madeCells]
  · intro i h1 h2
    simp [madeCells, Value.cells, Nat.mod_one, zS]

theorem rowT_of_made {w : World} {base g n : Nat} (h : w.ownsRow base 9 1 (.slice (some ⟨g, 0, none⟩) n n) n (madeCells (Value.cells (.string ⟨#[]⟩)) (n * 1)).toList) : RowT w g (List.replicate n zS) := by
  obtain ⟨hl, h | ⟨g', cap, cur, hv, hb, hh, h1, h2, h3, h4⟩⟩ := h
  · simp at h
  · simp at hv
    obtain ⟨rfl, rfl⟩ := hv
    unfold RowT
    rw [hh]
    have e : cur.toList = (madeCells (Value.cells (.string ⟨#[]⟩)) (n * 1)).toList := by
      rw [← h4, List.take_of_length_le (by simp [h3])]
    have e2 : cur = madeCells (Value.cells (.string ⟨#[]⟩)) (n * 1) := Array.toList_inj.1 e
    rw [e2, madeT]



def midT (zs : List ByteArray) (k : Nat) : List ByteArray := (List.range zs.length).map (fun i => if i < k then zs.getD i zS else zS)
theorem midT_len (zs : List ByteArray) (k : Nat) : (midT zs k).length = zs.length := by simp [midT]
theorem midT_zero (zs : List ByteArray) : midT zs 0 = List.replicate zs.length zS := by
  apply List.ext_getElem
  · simp [midT]
  · intro i h1 h2; simp [midT]
theorem midT_all (zs : List ByteArray) : midT zs zs.length = zs := by
  apply List.ext_getElem
  · simp [midT]
  · intro i h1 h2; simp [midT, h2]
theorem midT_set (zs : List ByteArray) (k : Nat) (h : k < zs.length) : (midT zs k).set k (zs.getD k zS) = midT zs (k + 1) := by
  apply List.ext_getElem
  · simp [midT]
  · intro i h1 h2
    simp only [midT, List.getElem_set, List.getElem_map, List.getElem_range]
    by_cases hik : k = i
    · subst hik; simp
    · by_cases h3 : i < k
      · simp [hik, h3, show i < k + 1 by omega]
      · simp [hik, h3, show ¬ i < k + 1 by omega]

set_option maxHeartbeats 1000000 in
theorem toStringS_any (a : Option Addr) (n cap : Nat) (zs : List ByteArray) (w : World) (h : TS w a n cap zs) (hn : n ≤ 1048576) :
    Calls Try.prog 74 #[.slice a n cap] w fun e w' => e = .returned (.slice (some ⟨w.heap.size, 0, none⟩) n n) ∧ RowT w' w.heap.size zs ∧ Below w.heap.size w w' := by
  obtain ⟨i0, hi, hz0, hz1, hz2⟩ := info_parts infoT
  obtain ⟨hl, hmx, hr, hc, _⟩ := h
  by_cases hn0 : n = 0
  · subst hn0
    obtain rfl : zs = [] := List.eq_nil_of_length_eq_zero hl
    clear hc
    go_enter Try.func74, Try.ntmps74
    go_wp2_with (at_make; refine wpList_make_full _ rfl _ _ 48 rfl w.heap.size 9 i0 (.string ⟨#[]⟩) 1 Try.underlying48 hi hz0 hz1 .i64 .i64 _ _ 0 rfl rfl rfl rfl (by omega) (by unfold maxLen; omega) (Nat.le_refl _) ?_; intro w1 hown hgr)
    have hrow := rowT_of_made hown
    have hbel := below_grown hgr
    clear hown hgr
    go_loop [4] (fun i => i = .int .i64 0) (fun _ => 0)
    case atStart => rfl
    case round =>
      obtain rfl := hrel
      go_wp2
      go_ret
      exact ⟨rfl, hrow, hbel⟩
  · obtain ⟨b, off, rfl, hd⟩ := hc hn0
    clear hc
    go_enter Try.func74, Try.ntmps74
    go_wp2_with (at_make; refine wpList_make_full _ rfl _ _ 48 rfl w.heap.size 9 i0 (.string ⟨#[]⟩) 1 Try.underlying48 hi hz0 hz1 .i64 .i64 _ _ n rfl rfl rfl rfl (by rw [hz2]; omega) (by unfold maxLen; omega) (Nat.le_refl _) ?_; intro w1 hown hgr)
    have hrow := rowT_of_made hown
    have hbel := below_grown hgr
    clear hown hgr hi hz0 hz1 hz2
    go_loopw [4] (fun i wr => ∃ k : Nat, k ≤ n ∧ i = .int .i64 k ∧ RowT wr w.heap.size (midT zs k) ∧ Below w.heap.size w wr) (fun i _ => n - (intOf i).toNat)
    case atStart => exact ⟨0, Nat.zero_le _, rfl, by rw [midT_zero, hl]; exact hrow, hbel⟩
    case round =>
      obtain ⟨k, hk, rfl, hR, hB⟩ := hrel
      clear hrow hbel
      by_cases hlt : k < n
      · have hlt' : (k : Int) < (n : Int) := by omega
        have hck : wr.cell? ⟨b, off + k, none⟩ = some (.string (zs.getD k zS)) := (hB.cell (World.block_lt_of_cell? w _ (hd k hlt))).trans (hd k hlt)
        have hgk : wr.cell? ⟨w.heap.size, k, none⟩ = some (.string ((midT zs k).getD k zS)) := hR.cell k (by rw [midT_len]; omega)
        have hfk : wr.frozen? ⟨w.heap.size, k, none⟩ = false := hR.frozen k
        have R' := hR.set k (zs.getD k zS)
        rw [midT_set zs k (by omega)] at R'
        have B' : Below w.heap.size w (wr.setCell ⟨w.heap.size, k, none⟩ (.string (zs.getD k zS))) := hB.setCell (Nat.le_refl _) _
        have HR := R'
        have HB := B'
        generalize zs.getD k zS = z at *
        generalize (midT zs k).getD k zS = z0 at *
        clear hd hR hB
        go_wp2
        go_roundw
        case rel => exact ⟨k + 1, by omega, by go_num, HR, HB⟩
        case measure => simp [intOf]; omega
      · have e : Hid (k = n) := by show k = n; omega
        go_wp2
        go_ret
        exact ⟨rfl, by rw [e.out, ← hl, midT_all] at hR; exact hR, hB⟩
end Go.Proofs.Ytngdgogjlpjjpac
