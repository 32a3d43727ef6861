import Derived.Test.YtngdgogjlpjjpadRows
import Derived.WalkKit
import Derived.WalkLawsBesides
import Derived.WalkSpells
import Derived.BigQuiet
import Derived.Deep.QuietTactic
import Derived.Laws.BitsLemmas
import Derived.Deep.RegionWith
namespace Go.Proofs.Ytngdgogjlpjjpad
open Go.RowKit
set_option linter.unusedVariables false
theorem ret_int {k : IntKind} {a b : Int} (h : a = b) : Ending.returned (.int k a) = .returned (.int k b) := by rw [h]
theorem ret_bool {a b : Bool} (h : a = b) : Ending.returned (.bool a) = .returned (.bool b) := by rw [h]
theorem hide {p : Prop} (h : p) : Hid p := h
theorem pow_pos (n : Nat) : 0 < (2:Int)^n := by
  have h1 : 0 < (2:Nat)^n := Nat.pow_pos (by omega)
  have h2 : ((2^n : Nat) : Int) = (2:Int)^n := by simp
  omega
def BS (w : World) (a : Option Addr) (n cap : Nat) (zs : List Int) : Prop :=
  zs.length = n ∧ n ≤ maxLen ∧ (∀ z ∈ zs, 0 ≤ z ∧ z ≤ 255) ∧ (n ≠ 0 → ∃ b off, a = some ⟨b, off, none⟩ ∧ ∀ i, i < n → w.cell? ⟨b, off + i, none⟩ = some (.int .u8 (zs.getD i 0))) ∧ n ≤ cap
theorem BS.below {w w' : World} {a : Option Addr} {n cap : Nat} {zs : List Int} (h : BS w a n cap zs) (hb : Below w.heap.size w w') : BS w' a n cap zs := by
  obtain ⟨h1, h2, h3, h4, h5⟩ := h
  refine ⟨h1, h2, h3, fun hn => ?_, h5⟩
  obtain ⟨b, off, ha, hc⟩ := h4 hn
  refine ⟨b, off, ha, fun i hi => ?_⟩
  have := hc i hi
  rw [hb.cell (p := ⟨b, off + i, none⟩) (World.block_lt_of_cell? w _ this)]
  exact this
theorem BS.range {w : World} {a : Option Addr} {n cap : Nat} {zs : List Int} (h : BS w a n cap zs) (i : Nat) : 0 ≤ zs.getD i 0 ∧ zs.getD i 0 ≤ 255 := by
  by_cases hi : i < zs.length
  · have := h.2.2.1 zs[i] (List.getElem_mem hi)
    simpa [List.getD_eq_getElem?_getD, hi] using this
  · simp [List.getD_eq_getElem?_getD, Nat.le_of_not_lt hi]
def Row8 (w : World) (g : Nat) (zs : List Int) : Prop := w.heap[g]? = some (.cells (zs.map (Value.int .u8)).toArray 5 (0, 0))
theorem Row8.cell {w : World} {g : Nat} {zs : List Int} (h : Row8 w g zs) (i : Nat) (hi : i < zs.length) : w.cell? ⟨g, i, none⟩ = some (.int .u8 (zs.getD i 0)) := by
  rw [cell_of_row w g i _ _ _ h]; simp [List.getD_eq_getElem?_getD, hi]
theorem Row8.frozen {w : World} {g : Nat} {zs : List Int} (h : Row8 w g zs) (i : Nat) : w.frozen? ⟨g, i, none⟩ = false := frozen_of_row w g i _ _ h
theorem Row8.set {w : World} {g : Nat} {zs : List Int} (h : Row8 w g zs) (i : Nat) (z : Int) : Row8 (w.setCell ⟨g, i, none⟩ (.int .u8 z)) g (zs.set i z) := by
  unfold Row8 at *
  rw [heap_setCell_same w g i _ _ _ h]
  simp [List.map_set]
theorem Row8.lt {w : World} {g : Nat} {zs : List Int} (h : Row8 w g zs) : g < w.heap.size := by
  unfold Row8 at h
  by_cases hg : g < w.heap.size
  · exact hg
  · simp [Array.getElem?_eq_none (Nat.le_of_not_lt hg)] at h
theorem Row8.below {w w' : World} {g : Nat} {zs : List Int} (h : Row8 w g zs) (hb : Below w.heap.size w w') : Row8 w' g zs := by
  have := hb.block g h.lt
  unfold Row8 at *
  rw [this]; exact h
theorem Row8.bs {w : World} {g : Nat} {zs : List Int} (h : Row8 w g zs) (hm : zs.length ≤ maxLen) (hz : ∀ z ∈ zs, 0 ≤ z ∧ z ≤ 255) (n cap : Nat) (hn : zs.length = n) (hc : n ≤ cap := by exact Nat.le_refl _) : BS w (some ⟨g, 0, none⟩) n cap zs := by
  subst hn
  exact ⟨rfl, hm, hz, fun _ => ⟨g, 0, rfl, fun i hi => by rw [Nat.zero_add]; exact h.cell i hi⟩, hc⟩
def Blk (w : World) (g : Nat) (cs : Array Value) (t : TypeId) : Prop := w.heap[g]? = some (.cells cs t (0, 0))
theorem Blk.cell {w : World} {g : Nat} {cs : Array Value} {t : TypeId} (h : Blk w g cs t) (i : Nat) : w.cell? ⟨g, i, none⟩ = cs[i]? := cell_of_row w g i _ _ _ h
theorem Blk.frozen {w : World} {g : Nat} {cs : Array Value} {t : TypeId} (h : Blk w g cs t) (i : Nat) : w.frozen? ⟨g, i, none⟩ = false := frozen_of_row w g i _ _ h
theorem Blk.lt {w : World} {g : Nat} {cs : Array Value} {t : TypeId} (h : Blk w g cs t) : g < w.heap.size := by
  unfold Blk at h
  by_cases hg : g < w.heap.size
  · exact hg
  · simp [Array.getElem?_eq_none (Nat.le_of_not_lt hg)] at h
theorem Blk.below {w w' : World} {g : Nat} {cs : Array Value} {t : TypeId} (h : Blk w g cs t) (hb : Below w.heap.size w w') : Blk w' g cs t := by
  have := hb.block g h.lt
  unfold Blk at *
  rw [this]; exact h
theorem Blk.new (w : World) (cs : Array Value) (t : TypeId) : Blk (w.alloc (.cells cs t)) w.heap.size cs t := heap_alloc_new w _
theorem Blk.alloc {w : World} {g : Nat} {cs : Array Value} {t : TypeId} (h : Blk w g cs t) (o : Obj) : Blk (w.alloc o) g cs t := by
  have hl := h.lt; unfold Blk at *; rw [Below.heap_alloc _ _ _ hl]; exact h
theorem Blk.set {w : World} {g : Nat} {cs : Array Value} {t : TypeId} (h : Blk w g cs t) (i : Nat) (v : Value) : Blk (w.setCell ⟨g, i, none⟩ v) g (cs.setIfInBounds i v) t := heap_setCell_same w g i _ _ _ h
theorem Blk.other {w : World} {g : Nat} {cs : Array Value} {t : TypeId} (h : Blk w g cs t) (a : Addr) (v : Value) (hg : g ≠ a.block) : Blk (w.setCell a v) g cs t := by
  unfold Blk at *; rw [heap_setCell_other _ _ _ _ hg]; exact h
theorem Row8.blk {w : World} {g : Nat} {zs : List Int} : Row8 w g zs = Blk w g (zs.map (Value.int .u8)).toArray 5 := rfl
theorem Row8.other {w : World} {g : Nat} {zs : List Int} (h : Row8 w g zs) (a : Addr) (v : Value) (hg : g ≠ a.block) : Row8 (w.setCell a v) g zs := Blk.other h a v hg
theorem Row8.alloc {w : World} {g : Nat} {zs : List Int} (h : Row8 w g zs) (o : Obj) : Row8 (w.alloc o) g zs := Blk.alloc h o
theorem size_setCell (w : World) (a : Addr) (v : Value) : (w.setCell a v).heap.size = w.heap.size := by simp [World.setCell]
theorem undrew {w w' : World} (h : Below w.drew.heap.size w.drew w') : Below w.heap.size w w' := ⟨h.os, h.tape, h.output, h.size, h.block⟩
def us (op : Int) : Int :=
  if op = 1 ∨ op = 25 then 0 else if op = 2 ∨ op = 3 ∨ op = 21 ∨ op = 22 then 5 else if op = 6 ∨ (14 ≤ op ∧ op ≤ 19) then 7
  else if op = 20 ∨ op = 23 ∨ op = 24 then 4 else if 4 ≤ op ∧ op ≤ 13 then 3 else -1
theorem us_out (op : Int) (h : op ≤ 0 ∨ 26 ≤ op) : us op = -1 := by
  unfold us
  rw [if_neg (by omega), if_neg (by omega), if_neg (by omega), if_neg (by omega), if_neg (by omega)]
theorem us_is (op : Int) : us op = -1 ∨ us op = 0 ∨ us op = 3 ∨ us op = 4 ∨ us op = 5 ∨ us op = 7 := by
  unfold us
  split
  · simp
  · split
    · simp
    · split
      · simp
      · split
        · simp
        · split <;> simp
theorem op_cases (op : Int) : op ≤ 0 ∨ 26 ≤ op ∨ op = 1 ∨ op = 2 ∨ op = 3 ∨ op = 4 ∨ op = 5 ∨ op = 6 ∨ op = 7 ∨ op = 8 ∨ op = 9 ∨ op = 10 ∨ op = 11 ∨ op = 12 ∨ op = 13 ∨ op = 14 ∨ op = 15 ∨ op = 16 ∨ op = 17 ∨ op = 18 ∨ op = 19 ∨ op = 20 ∨ op = 21 ∨ op = 22 ∨ op = 23 ∨ op = 24 ∨ op = 25 := by omega
def mD (u : Int) : Int := if u % 2 = 1 then 7 else 0
def mA (u : Int) : Int := if u / 2 % 2 = 1 then 7 else 0
def mI (u : Int) : Int := if u / 4 = 1 then 65535 else 0
def okU (u d a i : Int) : Bool := decide (0 ≤ u ∧ 0 ≤ d ∧ d ≤ mD u ∧ 0 ≤ a ∧ a ≤ mA u ∧ 0 ≤ i ∧ i ≤ mI u)
def okI (op d a i : Int) : Bool := okU (us op) d a i
set_option maxHeartbeats 1000000 in
theorem l3Uses_any (op : Int) (w : World) :
    Calls Try.prog 119 #[.int .i64 op] w fun e w' => e = .returned (.int .i64 (us op)) ∧ w = w' := by
  rcases op_cases op with h | h | rfl | rfl | rfl | rfl | rfl | rfl | rfl | rfl | rfl | rfl | rfl | rfl | rfl | rfl | rfl | rfl | rfl | rfl | rfl | rfl | rfl | rfl | rfl | rfl | rfl
  · have HU := hide (us_out op (Or.inl h))
    have e1 : (op == 1) = false := by simp; omega
    have e25 : (op == 25) = false := by simp; omega
    have e2 : (op == 2) = false := by simp; omega
    have e3 : (op == 3) = false := by simp; omega
    have e21 : (op == 21) = false := by simp; omega
    have e22 : (op == 22) = false := by simp; omega
    have e6 : (op == 6) = false := by simp; omega
    have e20 : (op == 20) = false := by simp; omega
    have e23 : (op == 23) = false := by simp; omega
    have e24 : (op == 24) = false := by simp; omega
    go_enter Try.func119, Try.ntmps119
    go_wp2
    go_ret
    exact ⟨ret_int HU.out.symm, rfl⟩
  · have HU := hide (us_out op (Or.inr h))
    have e1 : (op == 1) = false := by simp; omega
    have e25 : (op == 25) = false := by simp; omega
    have e2 : (op == 2) = false := by simp; omega
    have e3 : (op == 3) = false := by simp; omega
    have e21 : (op == 21) = false := by simp; omega
    have e22 : (op == 22) = false := by simp; omega
    have e6 : (op == 6) = false := by simp; omega
    have e20 : (op == 20) = false := by simp; omega
    have e23 : (op == 23) = false := by simp; omega
    have e24 : (op == 24) = false := by simp; omega
    go_enter Try.func119, Try.ntmps119
    go_wp2
    go_ret
    exact ⟨ret_int HU.out.symm, rfl⟩
  all_goals
    go_enter Try.func119, Try.ntmps119
    go_wp2
    go_ret
    exact ⟨ret_int (by decide), rfl⟩
set_option maxHeartbeats 2000000 in
theorem l3InsOk_any (op d a i : Int) (w : World) :
    Calls Try.prog 115 #[.agg #[.int .i64 op, .int .i64 d, .int .i64 a, .int .i64 i]] w fun e w' => e = .returned (.bool (okI op d a i)) ∧ Below w.heap.size w w' := by
  have HU := hide (l3Uses_any op)
  unfold okI
  have hu := us_is op
  generalize us op = u at *
  rcases hu with rfl | rfl | rfl | rfl | rfl | rfl
  all_goals
    go_enter Try.func115, Try.ntmps115
    go_wp2_with (go_at_call 119; refine (HU.out _).mono ?_; rintro e w' ⟨rfl, rfl⟩)
    all_goals
      go_ret
      refine ⟨ret_bool ?_, (Below.refl _ _).alloc (Nat.le_refl _) _⟩
      rw [Bool.eq_iff_iff]
      simp [okU, mD, mA, mI]
      try omega
theorem wraps62 (n : Int) (h₀ : 0 ≤ n) (h₁ : n < 2 ^ 62) : IntKind.i64.wrap n = n := by
  rw [IntKind.wrap_i64]; omega
set_option maxHeartbeats 400000 in
theorem isWord_any (v : Int) (w : World) :
    Calls Try.prog 100 #[.int .i64 v] w fun e w' => e = .returned (.bool (decide (0 ≤ v ∧ v ≤ 4294967295))) ∧ w = w' := by
  go_enter Try.func100, Try.ntmps100
  go_wp2
  all_goals
    go_ret
    refine ⟨ret_bool ?_, rfl⟩
    rw [Bool.eq_iff_iff]
    simp
    try omega
set_option maxHeartbeats 400000 in
theorem isUpTo_any (v m : Int) (w : World) :
    Calls Try.prog 34 #[.int .i64 v, .int .i64 m] w fun e w' => e = .returned (.bool (decide (0 ≤ v ∧ v ≤ m))) ∧ w = w' := by
  go_enter Try.func34, Try.ntmps34
  go_wp2
  all_goals
    go_ret
    refine ⟨ret_bool ?_, rfl⟩
    rw [Bool.eq_iff_iff]
    simp
    try omega
theorem Blk.four' {w : World} {g : Nat} {a b c d : Value} {t : TypeId} (h : Blk w g #[a, b, c, d] t) :
    w.cell? ⟨g, 0, none⟩ = some a ∧ w.cell? ⟨g, 1, none⟩ = some b ∧ w.cell? ⟨g, 2, none⟩ = some c ∧ w.cell? ⟨g, 3, none⟩ = some d ∧ ∀ i, w.frozen? ⟨g, i, none⟩ = false :=
  ⟨by rw [h.cell]; rfl, by rw [h.cell]; rfl, by rw [h.cell]; rfl, by rw [h.cell]; rfl, fun i => h.frozen i⟩
theorem ins_set {w2 : World} {g : Nat} {x y z u : Value} (hz : Blk w2 g #[x, y, z, u] 129) (o d a i : Int) :
    Blk ((((w2.setCell ⟨g, 0, none⟩ (.int .i64 o)).setCell ⟨g, 1, none⟩ (.int .i64 d)).setCell ⟨g, 2, none⟩ (.int .i64 a)).setCell ⟨g, 3, none⟩ (.int .i64 i)) g #[.int .i64 o, .int .i64 d, .int .i64 a, .int .i64 i] 129 :=
  Blk.set (Blk.set (Blk.set (Blk.set hz 0 _) 1 _) 2 _) 3 _
def wd (s : Int) : Bool := decide (s = 1 ∨ s = 2 ∨ s = 4)
def ins (p s f : Int) (n : Nat) : Bool := decide (f ≤ p ∧ p ≤ f + n - s)
def low : List Int → Int
  | [] => 0
  | z :: zs => low zs * 256 + z
theorem low_range : ∀ (zs : List Int), (∀ z ∈ zs, 0 ≤ z ∧ z ≤ 255) → 0 ≤ low zs ∧ low zs + 1 ≤ (256:Int)^zs.length
  | [], _ => by simp [low]
  | z :: zs, h => by
    have ih := low_range zs (fun x hx => h x (by simp [hx]))
    have hz := h z (by simp)
    simp only [low, List.length_cons, Int.pow_succ]
    omega
theorem low_small (zs : List Int) (h : ∀ z ∈ zs, 0 ≤ z ∧ z ≤ 255) (hl : zs.length ≤ 4) : 0 ≤ low zs ∧ low zs ≤ 4294967295 := by
  have h1 := low_range zs h
  have h2 : (256:Nat)^zs.length ≤ 256^4 := Nat.pow_le_pow_right (by omega) hl
  have h3 : ((256^zs.length : Nat) : Int) = (256:Int)^zs.length := by simp
  have h4 : (256:Nat)^4 = 4294967296 := rfl
  omega
theorem low_drop (zs : List Int) (j : Nat) (h : j < zs.length) : low (zs.drop j) = low (zs.drop (j + 1)) * 256 + zs.getD j 0 := by
  rw [List.drop_eq_getElem_cons h]
  simp [low, List.getD_eq_getElem?_getD, h]
set_option maxHeartbeats 1000000 in
theorem l1Low_any (b off n cap : Nat) (zs : List Int) (w : World) (h : BS w (some ⟨b, off, none⟩) n cap zs) (hn : n ≤ 4) :
    Calls Try.prog 61 #[.slice (some ⟨b, off, none⟩) n cap] w fun e w' => e = .returned (.int .i64 (low zs)) ∧ w = w' := by
  obtain ⟨hl, hmx, hr, hc, _⟩ := h
  have hd : ∀ i, i < n → w.cell? ⟨b, off + i, none⟩ = some (.int .u8 (zs.getD i 0)) := by
    intro i hi
    obtain ⟨b', off', e, hd⟩ := hc (by omega)
    simp at e
    obtain ⟨rfl, rfl⟩ := e
    exact hd i hi
  clear hc
  go_enter Try.func61, Try.ntmps61
  go_wp2
  go_loop [3, 4] (fun v i => ∃ (k : Nat) (p : Int), k ≤ n ∧ p + 1 = k ∧ i = .int .i64 p ∧ v = .int .i64 (low (zs.drop k))) (fun _ i => (intOf i + 1).toNat)
  case atStart => exact ⟨n, (n : Int) - 1, Nat.le_refl _, by omega, rfl, by rw [List.drop_of_length_le (by omega)]; rfl⟩
  case round =>
    obtain ⟨k, p, hk, hp, rfl, rfl⟩ := hrel
    by_cases h0 : k = 0
    · have hp' : p = -1 := by omega
      subst hp' h0
      clear hp
      have hfin : Hid (low (List.drop 0 zs) = low zs) := by show _ = _; rw [List.drop_zero]
      generalize low (List.drop 0 zs) = L at *
      go_wp2
      go_ret
      exact ⟨ret_int hfin.out, rfl⟩
    · obtain ⟨j, rfl⟩ : ∃ j, k = j + 1 := ⟨k - 1, by omega⟩
      have hp' : p = (j : Int) := by omega
      subst hp'
      have hj : (0:Int) ≤ (j:Int) := by omega
      have hjn : (j:Int) < (n:Int) := by omega
      have hst := low_drop zs j (by omega)
      have hL := low_small (zs.drop (j + 1)) (fun z hz => hr z (List.mem_of_mem_drop hz)) (by simp; omega)
      have hL3 : low (zs.drop (j + 1)) ≤ 4294967295 := hL.2
      have hcj := hd j (by omega)
      have hz0 : 0 ≤ zs.getD j 0 ∧ zs.getD j 0 ≤ 255 := by
        have := hr zs[j] (List.getElem_mem (by omega))
        simpa [List.getD_eq_getElem?_getD, show j < zs.length by omega] using this
      have HS := hide hst
      clear hst hp hd h0
      generalize low (zs.drop (j + 1)) = L at *
      generalize zs.getD j 0 = z at *
      obtain ⟨hL1, hL2⟩ := hL
      obtain ⟨hz1, hz2⟩ := hz0
      go_wp2
      go_round
      case rel => exact ⟨j, (j:Int) - 1, by omega, by omega, by go_num, by rw [HS.out]⟩
      case measure => simp [intOf]
end Go.Proofs.Ytngdgogjlpjjpad
