import Derived.Test.YtngdgogjlpjjpaeGreatGa00
import Derived.Deep.RegionWith
namespace Go.Proofs.YtngdgogjlpjjpaeGreat
open Go.RowKit
set_option linter.unusedVariables false
set_option linter.unusedSimpArgs false
set_option maxRecDepth 100000

set_option maxHeartbeats 1000000 in
theorem cut_any (s : ByteArray) (w : World) (hs : s.size ≤ 1048576) :
    Calls Tryz.prog 281 #[.string s, .string ⟨#[46]⟩] w fun e w' => e = .returned (.tuple #[.string (if 0 ≤ dot s then cutA s else s), .string (if 0 ≤ dot s then cutB s else ⟨#[]⟩), .bool (decide (0 ≤ dot s))]) ∧ Below w.heap.size w w' := by
  have HC := hide (fun w => slCut_any s w hs)
  generalize (if 0 ≤ dot s then cutA s else s) = A at *
  generalize (if 0 ≤ dot s then cutB s else ⟨#[]⟩) = B at *
  generalize decide (0 ≤ dot s) = C at *
  go_enter Tryz.func281, Tryz.ntmps281
  go_wp2_with (go_at_call 285; refine (HC.out _).mono ?_; rintro e w1 ⟨rfl, hb1⟩)
  go_ret3
  exact ⟨rfl, hb1⟩

theorem nmo_none : nmo ⟨#[]⟩ = false := rfl
/-- WHAT cutImport GIVES. -/
def cutV (s : ByteArray) : Value := if full s then .tuple #[.string (cutA s), .string (cutB s), .bool true] else .tuple #[.string ⟨#[]⟩, .string ⟨#[]⟩, .bool false]

set_option maxHeartbeats 1000000 in
theorem cutImport_any (s : ByteArray) (w : World) (hs : s.size ≤ 1048576) :
    Calls Tryz.prog 269 #[.string s] w fun e w' => e = .returned (cutV s) ∧ Below w.heap.size w w' := by
  have HC := hide (fun w => cut_any s w hs)
  obtain ⟨V, hV⟩ : ∃ V, V = cutV s := ⟨_, rfl⟩
  rw [← hV]
  unfold cutV full at hV
  have hA : (if 0 ≤ dot s then cutA s else s).size ≤ 1048576 := by split; exact cutA_size s hs; exact hs
  have hB : (if 0 ≤ dot s then cutB s else ⟨#[]⟩).size ≤ 1048576 := by split; exact cutB_size s hs; exact (by decide)
  have HA := hide (fun w => isName_any _ w hA)
  have HB := hide (fun w => isName_any _ w hB)
  have hV' : V = if nmo (if 0 ≤ dot s then cutA s else s) && nmo (if 0 ≤ dot s then cutB s else ⟨#[]⟩) then .tuple #[.string (if 0 ≤ dot s then cutA s else s), .string (if 0 ≤ dot s then cutB s else ⟨#[]⟩), .bool true] else .tuple #[.string ⟨#[]⟩, .string ⟨#[]⟩, .bool false] := by
    by_cases h : 0 ≤ dot s
    · simp only [h, if_true, decide_true, Bool.true_and] at hV ⊢
      exact hV
    · simp only [h, if_false, decide_false, Bool.false_and, nmo_none, Bool.and_false] at hV ⊢
      exact hV
  clear hV hA hB
  generalize (if 0 ≤ dot s then cutA s else s) = A at *
  generalize (if 0 ≤ dot s then cutB s else ⟨#[]⟩) = B at *
  generalize decide (0 ≤ dot s) = C at *
  generalize nmo A = a at *
  generalize nmo B = b at *
  have HV := hide hV'
  clear hV'
  cases a
  · obtain rfl : V = .tuple #[.string ⟨#[]⟩, .string ⟨#[]⟩, .bool false] := HV.out
    go_enter Tryz.func269, Tryz.ntmps269
    go_wp2_with fail
    refine (HC.out _).mono ?_
    rintro e w1 ⟨rfl, hb1⟩
    go_wp2_with fail
    refine (HA.out _).mono ?_
    rintro e w2 ⟨rfl, rfl⟩
    go_wp2
    go_ret3
    exact ⟨rfl, hb1⟩
  · cases b
    · obtain rfl : V = .tuple #[.string ⟨#[]⟩, .string ⟨#[]⟩, .bool false] := HV.out
      go_enter Tryz.func269, Tryz.ntmps269
      go_wp2_with fail
      refine (HC.out _).mono ?_
      rintro e w1 ⟨rfl, hb1⟩
      go_wp2_with fail
      refine (HA.out _).mono ?_
      rintro e w2 ⟨rfl, rfl⟩
      go_wp2_with fail
      refine (HB.out _).mono ?_
      rintro e w2 ⟨rfl, rfl⟩
      go_wp2
      go_ret3
      exact ⟨rfl, hb1⟩
    · obtain rfl : V = .tuple #[.string A, .string B, .bool true] := HV.out
      go_enter Tryz.func269, Tryz.ntmps269
      go_wp2_with fail
      refine (HC.out _).mono ?_
      rintro e w1 ⟨rfl, hb1⟩
      go_wp2_with fail
      refine (HA.out _).mono ?_
      rintro e w2 ⟨rfl, rfl⟩
      go_wp2_with fail
      refine (HB.out _).mono ?_
      rintro e w2 ⟨rfl, rfl⟩
      go_wp2
      go_ret3
      exact ⟨rfl, hb1⟩
end Go.Proofs.YtngdgogjlpjjpaeGreat

namespace Go.Proofs.YtngdgogjlpjjpaeGreat
open Go.RowKit
set_option linter.unusedVariables false

theorem info8 : (Tryz.prog.info? 5).map (fun i => (i.zero, i.size, i.bytes)) = some (some (.int .u8 0), 1, 1) := by kernel_rfl

theorem made8 (n : Nat) : (madeCells (Value.cells (.int .u8 0)) (n * 1)) = ((List.replicate n (0:Int)).map (Value.int .u8)).toArray := by
  apply Array.ext
  · simp [size_madeCells]
  · intro i h1 h2
    simp [madeCells, Value.cells, Nat.mod_one]

theorem row_of_made {w : World} {base g n : Nat} (h : w.ownsRow base 5 1 (.slice (some ⟨g, 0, none⟩) n n) n (madeCells (Value.cells (.int .u8 0)) (n * 1)).toList) : Row8 w g (List.replicate n 0) := by
  obtain ⟨hl, h | ⟨g', cap, cur, hv, hb, hh, h1, h2, h3, h4⟩⟩ := h
  · simp at h
  · simp at hv
    obtain ⟨rfl, rfl⟩ := hv
    unfold Row8
    rw [hh]
    have e : cur.toList = (madeCells (Value.cells (.int .u8 0)) (n * 1)).toList := by
      rw [← h4, List.take_of_length_le (by simp [h3])]
    have e2 : cur = madeCells (Value.cells (.int .u8 0)) (n * 1) := Array.toList_inj.1 e
    rw [e2, made8]

theorem below_grown {w w' : World} (h : w.grownBy w' none) : Below w.heap.size w w' := (Below.refl _ _).grown h (Nat.le_refl _) (fun k hk => by cases hk)

def mok (n1 n2 n3 : Nat) : Bool := decide (n1 ≤ 16384 ∧ n2 ≤ 16384 ∧ n3 ≤ 5000)

set_option maxHeartbeats 400000 in
theorem sMemOk_any (a1 a2 a3 : Option Addr) (n1 c1 n2 c2 n3 c3 : Nat) (w : World) :
    Calls Tryz.prog 195 #[.agg #[.slice a1 n1 c1, .slice a2 n2 c2, .slice a3 n3 c3]] w fun e w' => e = .returned (.bool (mok n1 n2 n3)) ∧ Below w.heap.size w w' := by
  by_cases k1 : (n1 : Int) ≤ 16384
  all_goals by_cases k2 : (n2 : Int) ≤ 16384
  all_goals by_cases k3 : (n3 : Int) ≤ 5000
  all_goals
    obtain ⟨r, hr⟩ : ∃ r, r = mok n1 n2 n3 := ⟨_, rfl⟩
    have HR : Hid (r = mok n1 n2 n3) := hr
    rw [← hr]
    clear hr
    go_enter Tryz.func195, Tryz.ntmps195
    go_wp2
    go_ret
    refine ⟨ret_bool ?_, (Below.refl _ _).alloc (Nat.le_refl _) _⟩
    rw [HR.out]
    unfold mok
    simp
    try omega

set_option maxHeartbeats 400000 in
theorem iMemOk_any (a1 a2 a3 : Option Addr) (n1 c1 n2 c2 n3 c3 : Nat) (w : World) :
    Calls Tryz.prog 234 #[.agg #[.slice a1 n1 c1, .slice a2 n2 c2, .slice a3 n3 c3]] w fun e w' => e = .returned (.bool (mok n1 n2 n3)) ∧ Below w.heap.size w w' := by
  by_cases k1 : (n1 : Int) ≤ 16384
  all_goals by_cases k2 : (n2 : Int) ≤ 16384
  all_goals by_cases k3 : (n3 : Int) ≤ 5000
  all_goals
    obtain ⟨r, hr⟩ : ∃ r, r = mok n1 n2 n3 := ⟨_, rfl⟩
    have HR : Hid (r = mok n1 n2 n3) := hr
    rw [← hr]
    clear hr
    go_enter Tryz.func234, Tryz.ntmps234
    go_wp2
    go_ret
    refine ⟨ret_bool ?_, (Below.refl _ _).alloc (Nat.le_refl _) _⟩
    rw [HR.out]
    unfold mok
    simp
    try omega
theorem Blk.three {w : World} {g : Nat} {a b c : Value} {t : TypeId} (h : Blk w g #[a, b, c] t) :
    w.cell? ⟨g, 0, none⟩ = some a ∧ w.cell? ⟨g, 1, none⟩ = some b ∧ w.cell? ⟨g, 2, none⟩ = some c ∧ ∀ i, w.frozen? ⟨g, i, none⟩ = false :=
  ⟨by rw [h.cell]; rfl, by rw [h.cell]; rfl, by rw [h.cell]; rfl, fun i => h.frozen i⟩

end Go.Proofs.YtngdgogjlpjjpaeGreat

namespace Go.Proofs.YtngdgogjlpjjpaeGreat
open Go.RowKit
set_option linter.unusedVariables false
set_option maxRecDepth 100000

/-- A SLICE OF BYTES THAT READS AS zs. -/
def IS (w : World) (a : Option Addr) (n cap : Nat) (zs : List Int) : Prop :=
  zs.length = n ∧ n ≤ maxLen ∧ (∀ z ∈ zs, wfi z) ∧ (n ≠ 0 → ∃ b off, a = some ⟨b, off, none⟩ ∧ ∀ i, i < n → w.cell? ⟨b, off + i, none⟩ = some (.int .i64 (zs.getD i 0))) ∧ n ≤ cap

theorem IS.below {w w' : World} {a : Option Addr} {n cap : Nat} {zs : List Int} (h : IS w a n cap zs) (hb : Below w.heap.size w w') : IS w' a n cap zs := by
  obtain ⟨h1, h2, h3, h4, h5⟩ := h
  refine ⟨h1, h2, h3, fun hn => ?_, h5⟩
  obtain ⟨b, off, ha, hc⟩ := h4 hn
  refine ⟨b, off, ha, fun i hi => ?_⟩
  have := hc i hi
  rw [hb.cell (p := ⟨b, off + i, none⟩) (World.block_lt_of_cell? w _ this)]
  exact this

theorem IS.range {w : World} {a : Option Addr} {n cap : Nat} {zs : List Int} (h : IS w a n cap zs) (i : Nat) : wfi (zs.getD i 0) := by
  by_cases hi : i < zs.length
  · have := h.2.2.1 zs[i] (List.getElem_mem hi)
    simpa [List.getD_eq_getElem?_getD, hi] using this
  · simp [List.getD_eq_getElem?_getD, Nat.le_of_not_lt hi, wfi]

/-- A ROW OF BYTES OF THE CALL's OWN: the whole block g. -/
def RowI (w : World) (g : Nat) (zs : List Int) : Prop := w.heap[g]? = some (.cells (zs.map (Value.int .i64)).toArray 3 (0, 0))

theorem RowI.cell {w : World} {g : Nat} {zs : List Int} (h : RowI w g zs) (i : Nat) (hi : i < zs.length) : w.cell? ⟨g, i, none⟩ = some (.int .i64 (zs.getD i 0)) := by
  rw [cell_of_row w g i _ _ _ h]; simp [List.getD_eq_getElem?_getD, hi]
theorem RowI.frozen {w : World} {g : Nat} {zs : List Int} (h : RowI w g zs) (i : Nat) : w.frozen? ⟨g, i, none⟩ = false := frozen_of_row w g i _ _ h
theorem RowI.set {w : World} {g : Nat} {zs : List Int} (h : RowI w g zs) (i : Nat) (z : Int) : RowI (w.setCell ⟨g, i, none⟩ (.int .i64 z)) g (zs.set i z) := by
  unfold RowI at *
  rw [heap_setCell_same w g i _ _ _ h]
  simp [List.map_set]
theorem RowI.lt {w : World} {g : Nat} {zs : List Int} (h : RowI w g zs) : g < w.heap.size := by
  unfold RowI at h
  by_cases hg : g < w.heap.size
  · exact hg
  · simp [Array.getElem?_eq_none (Nat.le_of_not_lt hg)] at h
theorem RowI.below {w w' : World} {g : Nat} {zs : List Int} (h : RowI w g zs) (hb : Below w.heap.size w w') : RowI w' g zs := by
  have := hb.block g h.lt
  unfold RowI at *
  rw [this]; exact h
theorem RowI.is {w : World} {g : Nat} {zs : List Int} (h : RowI w g zs) (hm : zs.length ≤ maxLen) (hz : ∀ z ∈ zs, wfi z) (n cap : Nat) (hn : zs.length = n) (hc : n ≤ cap := by exact Nat.le_refl _) : IS w (some ⟨g, 0, none⟩) n cap zs := by
  subst hn
  exact ⟨rfl, hm, hz, fun _ => ⟨g, 0, rfl, fun i hi => by rw [Nat.zero_add]; exact h.cell i hi⟩, hc⟩

theorem infoI : (Tryz.prog.info? 3).map (fun i => (i.zero, i.size, i.bytes)) = some (some (.int .i64 0), 1, 8) := by kernel_rfl

theorem madeI (n : Nat) : (madeCells (Value.cells (.int .i64 0)) (n * 1)) = ((List.replicate n (0:Int)).map (Value.int .i64)).toArray := by
  apply Array.ext
  · simp [size_madeCells]
  · intro i h1 h2
    simp [madeCells, Value.cells, Nat.mod_one]

theorem rowI_of_made {w : World} {base g n : Nat} (h : w.ownsRow base 3 1 (.slice (some ⟨g, 0, none⟩) n n) n (madeCells (Value.cells (.int .i64 0)) (n * 1)).toList) : RowI w g (List.replicate n 0) := by
  obtain ⟨hl, h | ⟨g', cap, cur, hv, hb, hh, h1, h2, h3, h4⟩⟩ := h
  · simp at h
  · simp at hv
    obtain ⟨rfl, rfl⟩ := hv
    unfold RowI
    rw [hh]
    have e : cur.toList = (madeCells (Value.cells (.int .i64 0)) (n * 1)).toList := by
      rw [← h4, List.take_of_length_le (by simp [h3])]
    have e2 : cur = madeCells (Value.cells (.int .i64 0)) (n * 1) := Array.toList_inj.1 e
    rw [e2, madeI]


set_option maxHeartbeats 400000 in
theorem szIntS_any (a : Option Addr) (n cap : Nat) (l : Int) (w : World) (h0 : 0 ≤ l) (h1 : l ≤ 1048576) (hn : n ≤ maxLen) :
    Calls Tryz.prog 48 #[.slice a n cap, .int .i64 l] w fun e w' => e = .returned (.int .i64 (if l < n then -1 else l - n)) ∧ w' = w := by
  unfold maxLen at hn
  by_cases h : l < n
  · go_enter Tryz.func48, Tryz.ntmps48
    go_wp2
    go_ret
    exact ⟨rfl, rfl⟩
  · go_enter Tryz.func48, Tryz.ntmps48
    go_wp2
    go_ret
    exact ⟨rfl, rfl⟩

set_option maxHeartbeats 1000000 in
theorem toIntS_any (a : Option Addr) (n cap : Nat) (zs : List Int) (w : World) (h : IS w a n cap zs) (hn : n ≤ 1048576) :
    Calls Tryz.prog 54 #[.slice a n cap] w fun e w' => e = .returned (.slice (some ⟨w.heap.size, 0, none⟩) n n) ∧ RowI w' w.heap.size zs ∧ Below w.heap.size w w' := by
  obtain ⟨i0, hi, hz0, hz1, hz2⟩ := info_parts infoI
  obtain ⟨hl, hmx, hr, hc, _⟩ := h
  by_cases hn0 : n = 0
  · subst hn0
    obtain rfl : zs = [] := List.eq_nil_of_length_eq_zero hl
    clear hc
    go_enter Tryz.func54, Tryz.ntmps54
    go_wp2_with (at_make; refine wpList_make_full _ rfl _ _ 24 rfl w.heap.size 3 i0 (.int .i64 0) 1 Tryz.underlying24 hi hz0 hz1 .i64 .i64 _ _ 0 rfl rfl rfl rfl (by omega) (by unfold maxLen; omega) (Nat.le_refl _) ?_; intro w1 hown hgr)
    have hrow := rowI_of_made hown
    have hbel := below_grown hgr
    clear hown hgr
    go_loop [4] (fun i => i = .int .i64 0) (fun _ => 0)
    case atStart => rfl
    case round =>
      obtain rfl := hrel
      go_wp2
      go_ret
      exact ⟨rfl, hrow, hbel⟩
  · obtain ⟨b, off, rfl, hd⟩ := hc hn0
    clear hc
    go_enter Tryz.func54, Tryz.ntmps54
    go_wp2_with (at_make; refine wpList_make_full _ rfl _ _ 24 rfl w.heap.size 3 i0 (.int .i64 0) 1 Tryz.underlying24 hi hz0 hz1 .i64 .i64 _ _ n rfl rfl rfl rfl (by rw [hz2]; omega) (by unfold maxLen; omega) (Nat.le_refl _) ?_; intro w1 hown hgr)
    have hrow := rowI_of_made hown
    have hbel := below_grown hgr
    clear hown hgr hi hz0 hz1 hz2
    go_loopw [4] (fun i wr => ∃ k : Nat, k ≤ n ∧ i = .int .i64 k ∧ RowI wr w.heap.size (mid zs k) ∧ Below w.heap.size w wr) (fun i _ => n - (intOf i).toNat)
    case atStart => exact ⟨0, Nat.zero_le _, rfl, by rw [mid_zero, hl]; exact hrow, hbel⟩
    case round =>
      obtain ⟨k, hk, rfl, hR, hB⟩ := hrel
      clear hrow hbel
      by_cases hlt : k < n
      · have hlt' : (k : Int) < (n : Int) := by omega
        have hck : wr.cell? ⟨b, off + k, none⟩ = some (.int .i64 (zs.getD k 0)) := (hB.cell (World.block_lt_of_cell? w _ (hd k hlt))).trans (hd k hlt)
        have hgk : wr.cell? ⟨w.heap.size, k, none⟩ = some (.int .i64 ((mid zs k).getD k 0)) := hR.cell k (by rw [mid_len]; omega)
        have hfk : wr.frozen? ⟨w.heap.size, k, none⟩ = false := hR.frozen k
        have R' := hR.set k (zs.getD k 0)
        rw [mid_set zs k (by omega)] at R'
        have B' : Below w.heap.size w (wr.setCell ⟨w.heap.size, k, none⟩ (.int .i64 (zs.getD k 0))) := hB.setCell (Nat.le_refl _) _
        have HR := R'
        have HB := B'
        generalize zs.getD k 0 = z at *
        generalize (mid zs k).getD k 0 = z0 at *
        clear hd hR hB
        go_wp2
        go_roundw
        case rel => exact ⟨k + 1, by omega, by go_num, HR, HB⟩
        case measure => simp [intOf]; omega
      · have e : Hid (k = n) := by show k = n; omega
        go_wp2
        go_ret
        exact ⟨rfl, by rw [e.out, ← hl, mid_all] at hR; exact hR, hB⟩

theorem take_eq_succI (xs ys : List Int) (k : Nat) (h : xs.take k = ys.take k) (hx : k < xs.length) (hy : k < ys.length) (he : xs.getD k 0 = ys.getD k 0) : xs.take (k + 1) = ys.take (k + 1) := by
  rw [List.take_succ_eq_append_getElem hx, List.take_succ_eq_append_getElem hy, h]
  simp [List.getD_eq_getElem?_getD, hx, hy] at he
  rw [he]

set_option maxHeartbeats 1000000 in
theorem eqIntS_any (a a' : Option Addr) (n cap n' cap' : Nat) (xs ys : List Int) (w : World) (h : IS w a n cap xs) (h' : IS w a' n' cap' ys) :
    Calls Tryz.prog 60 #[.slice a n cap, .slice a' n' cap'] w fun e w' => e = .returned (.bool (decide (xs = ys))) ∧ Below w.heap.size w w' := by
  obtain ⟨hl, hmx, hr, hc, _⟩ := h
  obtain ⟨hl', hmx', hr', hc', _⟩ := h'
  unfold maxLen at hmx hmx'
  by_cases hn : n = n'
  · subst hn
    have hne : ((n : Int) != (n : Int)) = false := by simp
    by_cases hn0 : n = 0
    · subst hn0
      obtain rfl : xs = [] := List.eq_nil_of_length_eq_zero hl
      obtain rfl : ys = [] := List.eq_nil_of_length_eq_zero hl'
      clear hc hc'
      go_enter Tryz.func60, Tryz.ntmps60
      go_wp2
      go_loop [5] (fun i => i = .int .i64 0) (fun _ => 0)
      case atStart => rfl
      case round =>
        obtain rfl := hrel
        go_wp2
        go_ret
        exact ⟨rfl, Below.refl _ _⟩
    · obtain ⟨b, off, rfl, hd⟩ := hc hn0
      obtain ⟨b', off', rfl, hd'⟩ := hc' hn0
      clear hc hc'
      go_enter Tryz.func60, Tryz.ntmps60
      go_wp2
      go_loopw [5] (fun i wr => ∃ k : Nat, k ≤ n ∧ i = .int .i64 k ∧ xs.take k = ys.take k ∧ Below w.heap.size w wr) (fun i _ => n - (intOf i).toNat)
      case atStart => exact ⟨0, Nat.zero_le _, rfl, by simp, Below.refl _ _⟩
      case round =>
        obtain ⟨k, hk, rfl, hT, hB⟩ := hrel
        by_cases hlt : k < n
        · have hlt' : (k : Int) < (n : Int) := by omega
          have hck : wr.cell? ⟨b, off + k, none⟩ = some (.int .i64 (xs.getD k 0)) := (hB.cell (World.block_lt_of_cell? w _ (hd k hlt))).trans (hd k hlt)
          have hck' : wr.cell? ⟨b', off' + k, none⟩ = some (.int .i64 (ys.getD k 0)) := (hB.cell (World.block_lt_of_cell? w _ (hd' k hlt))).trans (hd' k hlt)
          by_cases he : xs.getD k 0 = ys.getD k 0
          · have hS := take_eq_succI xs ys k hT (by omega) (by omega) he
            have HS : Hid (xs.take (k + 1) = ys.take (k + 1)) := hS
            rw [he] at hck
            clear hS hT hd hd' he
            generalize ys.getD k 0 = z at *
            have hz : (z != z) = false := by simp
            go_wp2
            go_quiet (fail)
            go_wp2
            go_roundw
            case rel => exact ⟨k + 1, by omega, by go_num, HS.out, below_drewN hB _⟩
            case measure => simp [intOf]; omega
          · have hf : Hid (decide (xs = ys) = false) := by
              show _ = _
              simp
              intro e
              exact he (by rw [e])
            have hz : (xs.getD k 0 != ys.getD k 0) = true := by simpa using he
            clear hT hd hd' he
            generalize ys.getD k 0 = z at *
            generalize xs.getD k 0 = z' at *
            go_wp2
            go_quiet (fail)
            go_wp2
            go_ret
            exact ⟨ret_bool hf.out.symm, below_drewN hB _⟩
        · have hf : Hid (decide (xs = ys) = true) := by
            show _ = _
            simp
            rw [List.take_of_length_le (by omega), List.take_of_length_le (by omega)] at hT
            exact hT
          clear hT hd hd'
          go_wp2
          go_ret
          exact ⟨ret_bool hf.out.symm, hB⟩
  · have hf : Hid (decide (xs = ys) = false) := by
      show _ = _
      simp
      intro e
      rw [e] at hl
      omega
    have hne : ((n : Int) != (n' : Int)) = true := by simp; omega
    clear hc hc'
    go_enter Tryz.func60, Tryz.ntmps60
    go_wp2
    go_ret
    exact ⟨ret_bool hf.out.symm, Below.refl _ _⟩
end Go.Proofs.YtngdgogjlpjjpaeGreat

namespace Go.Proofs.YtngdgogjlpjjpaeGreat
open Go.RowKit
set_option linter.unusedVariables false

def wd (s : Int) : Bool := decide (s = 1 ∨ s = 2 ∨ s = 4)

def ins (p s f : Int) (n : Nat) : Bool := decide (f ≤ p ∧ p ≤ f + n - s)

/-- THE NUMBER OF BYTES, the least first. -/
def low : List Int → Int
  | [] => 0
  | z :: zs => low zs * 256 + z

theorem low_range : ∀ (zs : List Int), (∀ z ∈ zs, 0 ≤ z ∧ z ≤ 255) → 0 ≤ low zs ∧ low zs + 1 ≤ (256:Int)^zs.length
  | [], _ => by simp [low]
  | z :: zs, h => by
    have ih := low_range zs (fun x hx => h x (by simp [hx]))
    have hz := h z (by simp)
    simp only [low, List.length_cons, Int.pow_succ]
    omega
theorem low_small (zs : List Int) (h : ∀ z ∈ zs, 0 ≤ z ∧ z ≤ 255) (hl : zs.length ≤ 4) : 0 ≤ low zs ∧ low zs ≤ 4294967295 := by
  have h1 := low_range zs h
  have h2 : (256:Nat)^zs.length ≤ 256^4 := Nat.pow_le_pow_right (by omega) hl
  have h3 : ((256^zs.length : Nat) : Int) = (256:Int)^zs.length := by simp
  have h4 : (256:Nat)^4 = 4294967296 := rfl
  omega
theorem low_drop (zs : List Int) (j : Nat) (h : j < zs.length) : low (zs.drop j) = low (zs.drop (j + 1)) * 256 + zs.getD j 0 := by
  rw [List.drop_eq_getElem_cons h]
  simp [low, List.getD_eq_getElem?_getD, h]

set_option maxHeartbeats 1000000 in
theorem l1Low_any (b off n cap : Nat) (zs : List Int) (w : World) (h : BS w (some ⟨b, off, none⟩) n cap zs) (hn : n ≤ 4) :
    Calls Tryz.prog 85 #[.slice (some ⟨b, off, none⟩) n cap] w fun e w' => e = .returned (.int .i64 (low zs)) ∧ w = w' := by
  obtain ⟨hl, hmx, hr, hc, _⟩ := h
  have hd : ∀ i, i < n → w.cell? ⟨b, off + i, none⟩ = some (.int .u8 (zs.getD i 0)) := by
    intro i hi
    obtain ⟨b', off', e, hd⟩ := hc (by omega)
    simp at e
    obtain ⟨rfl, rfl⟩ := e
    exact hd i hi
  clear hc
  go_enter Tryz.func85, Tryz.ntmps85
  go_wp2
  go_loop [3, 4] (fun v i => ∃ (k : Nat) (p : Int), k ≤ n ∧ p + 1 = k ∧ i = .int .i64 p ∧ v = .int .i64 (low (zs.drop k))) (fun _ i => (intOf i + 1).toNat)
  case atStart => exact ⟨n, (n : Int) - 1, Nat.le_refl _, by omega, rfl, by rw [List.drop_of_length_le (by omega)]; rfl⟩
  case round =>
    obtain ⟨k, p, hk, hp, rfl, rfl⟩ := hrel
    by_cases h0 : k = 0
    · have hp' : p = -1 := by omega
      subst hp' h0
      clear hp
      have hfin : Hid (low (List.drop 0 zs) = low zs) := by show _ = _; rw [List.drop_zero]
      generalize low (List.drop 0 zs) = L at *
      go_wp2
      go_ret
      exact ⟨ret_int hfin.out, rfl⟩
    · obtain ⟨j, rfl⟩ : ∃ j, k = j + 1 := ⟨k - 1, by omega⟩
      have hp' : p = (j : Int) := by omega
      subst hp'
      have hj : (0:Int) ≤ (j:Int) := by omega
      have hjn : (j:Int) < (n:Int) := by omega
      have hst := low_drop zs j (by omega)
      have hL := low_small (zs.drop (j + 1)) (fun z hz => hr z (List.mem_of_mem_drop hz)) (by simp; omega)
      have hL3 : low (zs.drop (j + 1)) ≤ 4294967295 := hL.2
      have hcj := hd j (by omega)
      have hz0 : 0 ≤ zs.getD j 0 ∧ zs.getD j 0 ≤ 255 := by
        have := hr zs[j] (List.getElem_mem (by omega))
        simpa [List.getD_eq_getElem?_getD, show j < zs.length by omega] using this
      have HS := hide hst
      clear hst hp hd h0
      generalize low (zs.drop (j + 1)) = L at *
      generalize zs.getD j 0 = z at *
      obtain ⟨hL1, hL2⟩ := hL
      obtain ⟨hz1, hz2⟩ := hz0
      go_wp2
      go_round
      case rel => exact ⟨j, (j:Int) - 1, by omega, by omega, by go_num, by rw [HS.out]⟩
      case measure => simp [intOf]
end Go.Proofs.YtngdgogjlpjjpaeGreat

namespace Go.Proofs.YtngdgogjlpjjpaeGreat
open Go.RowKit
set_option linter.unusedVariables false

theorem wraps_i64 (n : Int) (h₀ : 0 ≤ n) (h₁ : n < 2 ^ 62) : IntKind.i64.wrap n = n := by
  have : (2:Int)^62 = 4611686018427387904 := rfl
  simp only [IntKind.wrap, IntKind.bits, IntKind.signed]
  simp
  omega
theorem or_join (i : Nat) (x y : Int) (hx₀ : 0 ≤ x) (hx : x % 2 ^ i = 0) (hx₁ : x < 2 ^ 62) (hy₀ : 0 ≤ y) (hy : y < 2 ^ i) (hy₁ : y < 2 ^ 62) : bits .or .i64 x y = x + y :=
  bits_join .i64 62 (by decide) wraps_i64 i x y hx₀ hx hx₁ hy₀ hy hy₁

theorem BS.at {w : World} {b off n cap : Nat} {zs : List Int} (h : BS w (some ⟨b, off, none⟩) n cap zs) (i : Nat) (hi : i < n) : w.cell? ⟨b, off + i, none⟩ = some (.int .u8 (zs.getD i 0)) := by
  obtain ⟨b', off', e, hd⟩ := h.2.2.2.1 (by omega)
  simp at e
  obtain ⟨rfl, rfl⟩ := e
  exact hd i hi

theorem or4 (z0 z1 z2 z3 : Int) (p0 : 0 ≤ z0) (p0' : z0 ≤ 255) (p1 : 0 ≤ z1) (p1' : z1 ≤ 255) (p2 : 0 ≤ z2) (p2' : z2 ≤ 255) (p3 : 0 ≤ z3) (p3' : z3 ≤ 255) :
    bits BinOp.or IntKind.i64 (bits BinOp.or IntKind.i64 (bits BinOp.or IntKind.i64 0 (bits BinOp.or IntKind.i64 (z3 * 16777216) (z2 * 65536))) (z1 * 256)) z0 = low [z0, z1, z2, z3] := by
  rw [or_join 24 (z3 * 16777216) (z2 * 65536) (by omega) (by omega) (by omega) (by omega) (by omega) (by omega)]
  rw [or_join 40 0 (z3 * 16777216 + z2 * 65536) (by omega) (by omega) (by omega) (by omega) (by omega) (by omega)]
  rw [or_join 16 (0 + (z3 * 16777216 + z2 * 65536)) (z1 * 256) (by omega) (by omega) (by omega) (by omega) (by omega) (by omega)]
  rw [or_join 8 (0 + (z3 * 16777216 + z2 * 65536) + z1 * 256) z0 (by omega) (by omega) (by omega) (by omega) (by omega) (by omega)]
  simp only [low]
  omega
theorem or2 (z0 z1 : Int) (p0 : 0 ≤ z0) (p0' : z0 ≤ 255) (p1 : 0 ≤ z1) (p1' : z1 ≤ 255) :
    bits BinOp.or IntKind.i64 (bits BinOp.or IntKind.i64 0 (z1 * 256)) z0 = low [z0, z1] := by
  rw [or_join 16 0 (z1 * 256) (by omega) (by omega) (by omega) (by omega) (by omega) (by omega)]
  rw [or_join 8 (0 + z1 * 256) z0 (by omega) (by omega) (by omega) (by omega) (by omega) (by omega)]
  simp only [low]
  omega
theorem or1 (z0 : Int) (p0 : 0 ≤ z0) (p0' : z0 ≤ 255) : bits BinOp.or IntKind.i64 0 z0 = low [z0] := by
  rw [or_join 8 0 z0 (by omega) (by omega) (by omega) (by omega) (by omega) (by omega)]
  simp only [low]
  omega
theorem take4 (zs : List Int) (h : 4 ≤ zs.length) : zs.take 4 = [zs.getD 0 0, zs.getD 1 0, zs.getD 2 0, zs.getD 3 0] := by
  match zs, h with
  | a :: b :: c :: d :: _, _ => rfl
theorem take2 (zs : List Int) (h : 2 ≤ zs.length) : zs.take 2 = [zs.getD 0 0, zs.getD 1 0] := by
  match zs, h with
  | a :: b :: _, _ => rfl
theorem take1 (zs : List Int) (h : 1 ≤ zs.length) : zs.take 1 = [zs.getD 0 0] := by
  match zs, h with
  | a :: _, _ => rfl

set_option maxHeartbeats 1000000 in
theorem getBytes_4 (b off n cap : Nat) (zs : List Int) (w : World) (h : BS w (some ⟨b, off, none⟩) n cap zs) (hn : 4 ≤ n) :
    Calls Tryz.prog 180 #[.slice (some ⟨b, off, none⟩) n cap, .int .i64 4] w fun e w' => e = .returned (.int .i64 (low (zs.take 4))) ∧ Below w.heap.size w w' := by
  have r0 := h.range 0
  have r1 := h.range 1
  have r2 := h.range 2
  have r3 := h.range 3
  have c0 := h.at 0 (by omega)
  have c1 := h.at 1 (by omega)
  have c2 := h.at 2 (by omega)
  have c3 := h.at 3 (by omega)
  simp only [Nat.add_zero] at c0
  have hl : (3 : Int) < (n : Int) := by omega
  rw [take4 zs (by rw [h.1]; omega)]
  clear h
  generalize zs.getD 0 0 = z0 at *
  generalize zs.getD 1 0 = z1 at *
  generalize zs.getD 2 0 = z2 at *
  generalize zs.getD 3 0 = z3 at *
  obtain ⟨p0, p0'⟩ := r0
  obtain ⟨p1, p1'⟩ := r1
  obtain ⟨p2, p2'⟩ := r2
  obtain ⟨p3, p3'⟩ := r3
  have HS := hide (or4 z0 z1 z2 z3 p0 p0' p1 p1' p2 p2' p3 p3')
  generalize low [z0, z1, z2, z3] = L at *
  go_enter Tryz.func180, Tryz.ntmps180
  go_wp2
  go_quiet (fail)
  go_wp2
  go_ret
  exact ⟨ret_int HS.out, below_drewN (Below.refl _ _) _⟩

set_option maxHeartbeats 1000000 in
theorem getBytes_2 (b off n cap : Nat) (zs : List Int) (w : World) (h : BS w (some ⟨b, off, none⟩) n cap zs) (hn : 2 ≤ n) :
    Calls Tryz.prog 180 #[.slice (some ⟨b, off, none⟩) n cap, .int .i64 2] w fun e w' => e = .returned (.int .i64 (low (zs.take 2))) ∧ Below w.heap.size w w' := by
  have r0 := h.range 0
  have r1 := h.range 1
  have c0 := h.at 0 (by omega)
  have c1 := h.at 1 (by omega)
  simp only [Nat.add_zero] at c0
  have hl : (1 : Int) < (n : Int) := by omega
  rw [take2 zs (by rw [h.1]; omega)]
  clear h
  generalize zs.getD 0 0 = z0 at *
  generalize zs.getD 1 0 = z1 at *
  obtain ⟨p0, p0'⟩ := r0
  obtain ⟨p1, p1'⟩ := r1
  have HS := hide (or2 z0 z1 p0 p0' p1 p1')
  generalize low [z0, z1] = L at *
  go_enter Tryz.func180, Tryz.ntmps180
  go_wp2
  go_ret
  exact ⟨ret_int HS.out, Below.refl _ _⟩

set_option maxHeartbeats 1000000 in
theorem getBytes_1 (b off n cap : Nat) (zs : List Int) (w : World) (h : BS w (some ⟨b, off, none⟩) n cap zs) (hn : 1 ≤ n) :
    Calls Tryz.prog 180 #[.slice (some ⟨b, off, none⟩) n cap, .int .i64 1] w fun e w' => e = .returned (.int .i64 (low (zs.take 1))) ∧ Below w.heap.size w w' := by
  have r0 := h.range 0
  have c0 := h.at 0 (by omega)
  simp only [Nat.add_zero] at c0
  have hl : (0 : Int) < (n : Int) := by omega
  rw [take1 zs (by rw [h.1]; omega)]
  clear h
  generalize zs.getD 0 0 = z0 at *
  obtain ⟨p0, p0'⟩ := r0
  have HS := hide (or1 z0 p0 p0')
  generalize low [z0] = L at *
  go_enter Tryz.func180, Tryz.ntmps180
  go_wp2
  go_ret
  exact ⟨ret_int HS.out, Below.refl _ _⟩

end Go.Proofs.YtngdgogjlpjjpaeGreat

namespace Go.Proofs.YtngdgogjlpjjpaeGreat
open Go.RowKit
set_option linter.unusedVariables false

theorem BS.drop {w : World} {b off n cap : Nat} {zs : List Int} (h : BS w (some ⟨b, off, none⟩) n cap zs) (k : Nat) (hk : k ≤ n) : BS w (some ⟨b, off + k, none⟩) (n - k) (cap - k) (zs.drop k) := by
  have hl := h.1
  refine ⟨by simp; omega, by have := h.2.1; omega, fun z hz => h.2.2.1 z (List.mem_of_mem_drop hz), fun hn => ⟨b, off + k, rfl, fun i hi => ?_⟩, by have := h.2.2.2.2; omega⟩
  have := h.at (k + i) (by omega)
  rw [Nat.add_assoc, this]
  simp [List.getD_eq_getElem?_getD]
theorem BS.take {w : World} {b off n cap : Nat} {zs : List Int} (h : BS w (some ⟨b, off, none⟩) n cap zs) (s : Nat) (hs : s ≤ n) : BS w (some ⟨b, off, none⟩) s cap (zs.take s) := by
  have hl := h.1
  refine ⟨by simp; omega, by have := h.2.1; omega, fun z hz => h.2.2.1 z (List.mem_of_mem_take hz), fun hn => ⟨b, off, rfl, fun i hi => ?_⟩, by have := h.2.2.2.2; omega⟩
  have := h.at i (by omega)
  rw [this]
  simp [List.getD_eq_getElem?_getD, hi]

theorem wd4 : wd 4 = true := by decide
theorem wd2 : wd 2 = true := by decide
theorem wd1 : wd 1 = true := by decide
theorem mok1 {n1 n2 n3 : Nat} (h : mok n1 n2 n3 = true) : n1 ≤ 16384 ∧ n2 ≤ 16384 ∧ n3 ≤ 5000 := by simpa [mok] using h

end Go.Proofs.YtngdgogjlpjjpaeGreat

namespace Go.Proofs.YtngdgogjlpjjpaeGreat
open Go.RowKit
set_option linter.unusedVariables false

end Go.Proofs.YtngdgogjlpjjpaeGreat

namespace Go.Proofs.YtngdgogjlpjjpaeGreat
open Go.RowKit
set_option linter.unusedVariables false

/-- WHAT Read ANSWERS. -/
def rd (n1 n2 n3 : Nat) (x1 x2 : List Int) (p s : Int) : Int × Int :=
  if mok n1 n2 n3 = true ∧ wd s = true then
    if (p.tmod s != 0) = true then (0, 1)
    else if p = 131072 then (0, 4)
      else if ins p s 0 n1 = true then (low ((x1.drop p.toNat).take s.toNat), 0)
      else if ins p s 65536 n2 = true then (low ((x2.drop (p - 65536).toNat).take s.toNat), 0) else (0, 2)
  else (0, 2)
theorem rd_pair {x y : Int} {r : Int × Int} (h : r = (x, y)) : Value.tuple #[.int .i64 r.1, .int .i64 r.2] = .tuple #[.int .i64 x, .int .i64 y] := by rw [h]
theorem wd_cases {s : Int} (h : wd s = true) : s = 4 ∨ s = 2 ∨ s = 1 := by simp [wd] at h; omega
theorem tmod1 (p : Int) : (p.tmod 1 != 0) = false := by simp
theorem BS.some {w : World} {a : Option Addr} {n cap : Nat} {zs : List Int} (h : BS w a n cap zs) (hn : n ≠ 0) : ∃ b off, a = Option.some ⟨b, off, none⟩ := by
  obtain ⟨b, off, e, _⟩ := h.2.2.2.1 hn
  exact ⟨b, off, e⟩

end Go.Proofs.YtngdgogjlpjjpaeGreat
