import Derived.BigQuiet
import Derived.Deep.QuietTactic
import Derived.Deep.RegionWith
import Derived.Test.YtngdgogjlpjjpacP00
namespace Go.Proofs.Ytngdgogjlpjjpac
open Go.RowKit
set_option linter.unusedVariables false
def BS (w : World) (a : Option Addr) (n cap : Nat) (zs : List Int) : Prop :=
  zs.length = n ∧ n ≤ maxLen ∧ (∀ z ∈ zs, 0 ≤ z ∧ z ≤ 255) ∧ (n ≠ 0 → ∃ b off, a = some ⟨b, off, none⟩ ∧ ∀ i, i < n → w.cell? ⟨b, off + i, none⟩ = some (.int .u8 (zs.getD i 0))) ∧ n ≤ cap
theorem BS.below {w w' : World} {a : Option Addr} {n cap : Nat} {zs : List Int} (h : BS w a n cap zs) (hb : Below w.heap.size w w') : BS w' a n cap zs := by
  obtain ⟨h1, h2, h3, h4, h5⟩ := h
  refine ⟨h1, h2, h3, fun hn => ?_, h5⟩
  obtain ⟨b, off, ha, hc⟩ := h4 hn
  refine ⟨b, off, ha, fun i hi => ?_⟩
  have := hc i hi
  rw [hb.cell (p := ⟨b, off + i, none⟩) (World.block_lt_of_cell? w _ this)]
  exact this
theorem BS.range {w : World} {a : Option Addr} {n cap : Nat} {zs : List Int} (h : BS w a n cap zs) (i : Nat) : 0 ≤ zs.getD i 0 ∧ zs.getD i 0 ≤ 255 := by
  by_cases hi : i < zs.length
  · have := h.2.2.1 zs[i] (List.getElem_mem hi)
    simpa [List.getD_eq_getElem?_getD, hi] using this
  · simp [List.getD_eq_getElem?_getD, Nat.le_of_not_lt hi]
def Row8 (w : World) (g : Nat) (zs : List Int) : Prop := w.heap[g]? = some (.cells (zs.map (Value.int .u8)).toArray 5 (0, 0))
theorem Row8.cell {w : World} {g : Nat} {zs : List Int} (h : Row8 w g zs) (i : Nat) (hi : i < zs.length) : w.cell? ⟨g, i, none⟩ = some (.int .u8 (zs.getD i 0)) := by
  rw [cell_of_row w g i _ _ _ h]; simp [List.getD_eq_getElem?_getD, hi]
theorem Row8.frozen {w : World} {g : Nat} {zs : List Int} (h : Row8 w g zs) (i : Nat) : w.frozen? ⟨g, i, none⟩ = false := frozen_of_row w g i _ _ h
theorem Row8.set {w : World} {g : Nat} {zs : List Int} (h : Row8 w g zs) (i : Nat) (z : Int) : Row8 (w.setCell ⟨g, i, none⟩ (.int .u8 z)) g (zs.set i z) := by
  unfold Row8 at *
  rw [heap_setCell_same w g i _ _ _ h]
  simp [List.map_set]
theorem Row8.lt {w : World} {g : Nat} {zs : List Int} (h : Row8 w g zs) : g < w.heap.size := by
  unfold Row8 at h
  by_cases hg : g < w.heap.size
  · exact hg
  · simp [Array.getElem?_eq_none (Nat.le_of_not_lt hg)] at h
theorem Row8.below {w w' : World} {g : Nat} {zs : List Int} (h : Row8 w g zs) (hb : Below w.heap.size w w') : Row8 w' g zs := by
  have := hb.block g h.lt
  unfold Row8 at *
  rw [this]; exact h
theorem Row8.bs {w : World} {g : Nat} {zs : List Int} (h : Row8 w g zs) (hm : zs.length ≤ maxLen) (hz : ∀ z ∈ zs, 0 ≤ z ∧ z ≤ 255) (n cap : Nat) (hn : zs.length = n) (hc : n ≤ cap := by exact Nat.le_refl _) : BS w (some ⟨g, 0, none⟩) n cap zs := by
  subst hn
  exact ⟨rfl, hm, hz, fun _ => ⟨g, 0, rfl, fun i hi => by rw [Nat.zero_add]; exact h.cell i hi⟩, hc⟩
def Blk (w : World) (g : Nat) (cs : Array Value) (t : TypeId) : Prop := w.heap[g]? = some (.cells cs t (0, 0))
theorem Blk.cell {w : World} {g : Nat} {cs : Array Value} {t : TypeId} (h : Blk w g cs t) (i : Nat) : w.cell? ⟨g, i, none⟩ = cs[i]? := cell_of_row w g i _ _ _ h
theorem Blk.frozen {w : World} {g : Nat} {cs : Array Value} {t : TypeId} (h : Blk w g cs t) (i : Nat) : w.frozen? ⟨g, i, none⟩ = false := frozen_of_row w g i _ _ h
theorem Blk.lt {w : World} {g : Nat} {cs : Array Value} {t : TypeId} (h : Blk w g cs t) : g < w.heap.size := by
  unfold Blk at h
  by_cases hg : g < w.heap.size
  · exact hg
  · simp [Array.getElem?_eq_none (Nat.le_of_not_lt hg)] at h
theorem Blk.below {w w' : World} {g : Nat} {cs : Array Value} {t : TypeId} (h : Blk w g cs t) (hb : Below w.heap.size w w') : Blk w' g cs t := by
  have := hb.block g h.lt
  unfold Blk at *
  rw [this]; exact h
theorem Blk.new (w : World) (cs : Array Value) (t : TypeId) : Blk (w.alloc (.cells cs t)) w.heap.size cs t := heap_alloc_new w _
theorem Blk.alloc {w : World} {g : Nat} {cs : Array Value} {t : TypeId} (h : Blk w g cs t) (o : Obj) : Blk (w.alloc o) g cs t := by
  have hl := h.lt; unfold Blk at *; rw [Below.heap_alloc _ _ _ hl]; exact h
theorem Blk.set {w : World} {g : Nat} {cs : Array Value} {t : TypeId} (h : Blk w g cs t) (i : Nat) (v : Value) : Blk (w.setCell ⟨g, i, none⟩ v) g (cs.setIfInBounds i v) t := heap_setCell_same w g i _ _ _ h
theorem Blk.other {w : World} {g : Nat} {cs : Array Value} {t : TypeId} (h : Blk w g cs t) (a : Addr) (v : Value) (hg : g ≠ a.block) : Blk (w.setCell a v) g cs t := by
  unfold Blk at *; rw [heap_setCell_other _ _ _ _ hg]; exact h
theorem Row8.blk {w : World} {g : Nat} {zs : List Int} : Row8 w g zs = Blk w g (zs.map (Value.int .u8)).toArray 5 := rfl
theorem Row8.other {w : World} {g : Nat} {zs : List Int} (h : Row8 w g zs) (a : Addr) (v : Value) (hg : g ≠ a.block) : Row8 (w.setCell a v) g zs := Blk.other h a v hg
theorem Row8.alloc {w : World} {g : Nat} {zs : List Int} (h : Row8 w g zs) (o : Obj) : Row8 (w.alloc o) g zs := Blk.alloc h o
theorem size_setCell (w : World) (a : Addr) (v : Value) : (w.setCell a v).heap.size = w.heap.size := by simp [World.setCell]
theorem undrew {w w' : World} (h : Below w.drew.heap.size w.drew w') : Below w.heap.size w w' := ⟨h.os, h.tape, h.output, h.size, h.block⟩
theorem info8 : (Try.prog.info? 5).map (fun i => (i.zero, i.size, i.bytes)) = some (some (.int .u8 0), 1, 1) := by kernel_rfl
theorem made8 (n : Nat) : (madeCells (Value.cells (.int .u8 0)) (n * 1)) = ((List.replicate n (0:Int)).map (Value.int .u8)).toArray := by
  apply Array.ext
  · simp [size_madeCells]
  · intro i h1 h2
    simp [madeCells, Value.cells, Nat.mod_one]
def mok (n1 n2 n3 : Nat) : Bool := decide (n1 ≤ 16384 ∧ n2 ≤ 16384 ∧ n3 ≤ 5000)
theorem Blk.three {w : World} {g : Nat} {a b c : Value} {t : TypeId} (h : Blk w g #[a, b, c] t) :
    w.cell? ⟨g, 0, none⟩ = some a ∧ w.cell? ⟨g, 1, none⟩ = some b ∧ w.cell? ⟨g, 2, none⟩ = some c ∧ ∀ i, w.frozen? ⟨g, i, none⟩ = false :=
  ⟨by rw [h.cell]; rfl, by rw [h.cell]; rfl, by rw [h.cell]; rfl, fun i => h.frozen i⟩
def wd (s : Int) : Bool := decide (s = 1 ∨ s = 2 ∨ s = 4)
def ins (p s f : Int) (n : Nat) : Bool := decide (f ≤ p ∧ p ≤ f + n - s)
def low : List Int → Int
  | [] => 0
  | z :: zs => low zs * 256 + z
theorem low_range : ∀ (zs : List Int), (∀ z ∈ zs, 0 ≤ z ∧ z ≤ 255) → 0 ≤ low zs ∧ low zs + 1 ≤ (256:Int)^zs.length
  | [], _ => by simp [low]
  | z :: zs, h => by
    have ih := low_range zs (fun x hx => h x (by simp [hx]))
    have hz := h z (by simp)
    simp only [low, List.length_cons, Int.pow_succ]
    omega
theorem low_small (zs : List Int) (h : ∀ z ∈ zs, 0 ≤ z ∧ z ≤ 255) (hl : zs.length ≤ 4) : 0 ≤ low zs ∧ low zs ≤ 4294967295 := by
  have h1 := low_range zs h
  have h2 : (256:Nat)^zs.length ≤ 256^4 := Nat.pow_le_pow_right (by omega) hl
  have h3 : ((256^zs.length : Nat) : Int) = (256:Int)^zs.length := by simp
  have h4 : (256:Nat)^4 = 4294967296 := rfl
  omega
theorem wraps_i64 (n : Int) (h₀ : 0 ≤ n) (h₁ : n < 2 ^ 62) : IntKind.i64.wrap n = n := by
  have : (2:Int)^62 = 4611686018427387904 := rfl
  simp only [IntKind.wrap, IntKind.bits, IntKind.signed]
  simp
  omega
theorem or_join (i : Nat) (x y : Int) (hx₀ : 0 ≤ x) (hx : x % 2 ^ i = 0) (hx₁ : x < 2 ^ 62) (hy₀ : 0 ≤ y) (hy : y < 2 ^ i) (hy₁ : y < 2 ^ 62) : bits .or .i64 x y = x + y :=
  bits_join .i64 62 (by decide) wraps_i64 i x y hx₀ hx hx₁ hy₀ hy hy₁
theorem BS.at {w : World} {b off n cap : Nat} {zs : List Int} (h : BS w (some ⟨b, off, none⟩) n cap zs) (i : Nat) (hi : i < n) : w.cell? ⟨b, off + i, none⟩ = some (.int .u8 (zs.getD i 0)) := by
  obtain ⟨b', off', e, hd⟩ := h.2.2.2.1 (by omega)
  simp at e
  obtain ⟨rfl, rfl⟩ := e
  exact hd i hi
theorem or4 (z0 z1 z2 z3 : Int) (p0 : 0 ≤ z0) (p0' : z0 ≤ 255) (p1 : 0 ≤ z1) (p1' : z1 ≤ 255) (p2 : 0 ≤ z2) (p2' : z2 ≤ 255) (p3 : 0 ≤ z3) (p3' : z3 ≤ 255) :
    bits BinOp.or IntKind.i64 (bits BinOp.or IntKind.i64 (bits BinOp.or IntKind.i64 0 (bits BinOp.or IntKind.i64 (z3 * 16777216) (z2 * 65536))) (z1 * 256)) z0 = low [z0, z1, z2, z3] := by
  rw [or_join 24 (z3 * 16777216) (z2 * 65536) (by omega) (by omega) (by omega) (by omega) (by omega) (by omega)]
  rw [or_join 40 0 (z3 * 16777216 + z2 * 65536) (by omega) (by omega) (by omega) (by omega) (by omega) (by omega)]
  rw [or_join 16 (0 + (z3 * 16777216 + z2 * 65536)) (z1 * 256) (by omega) (by omega) (by omega) (by omega) (by omega) (by omega)]
  rw [or_join 8 (0 + (z3 * 16777216 + z2 * 65536) + z1 * 256) z0 (by omega) (by omega) (by omega) (by omega) (by omega) (by omega)]
  simp only [low]
  omega
theorem or2 (z0 z1 : Int) (p0 : 0 ≤ z0) (p0' : z0 ≤ 255) (p1 : 0 ≤ z1) (p1' : z1 ≤ 255) :
    bits BinOp.or IntKind.i64 (bits BinOp.or IntKind.i64 0 (z1 * 256)) z0 = low [z0, z1] := by
  rw [or_join 16 0 (z1 * 256) (by omega) (by omega) (by omega) (by omega) (by omega) (by omega)]
  rw [or_join 8 (0 + z1 * 256) z0 (by omega) (by omega) (by omega) (by omega) (by omega) (by omega)]
  simp only [low]
  omega
theorem or1 (z0 : Int) (p0 : 0 ≤ z0) (p0' : z0 ≤ 255) : bits BinOp.or IntKind.i64 0 z0 = low [z0] := by
  rw [or_join 8 0 z0 (by omega) (by omega) (by omega) (by omega) (by omega) (by omega)]
  simp only [low]
  omega
theorem take4 (zs : List Int) (h : 4 ≤ zs.length) : zs.take 4 = [zs.getD 0 0, zs.getD 1 0, zs.getD 2 0, zs.getD 3 0] := by
  match zs, h with
  | a :: b :: c :: d :: _, _ => rfl
theorem take2 (zs : List Int) (h : 2 ≤ zs.length) : zs.take 2 = [zs.getD 0 0, zs.getD 1 0] := by
  match zs, h with
  | a :: b :: _, _ => rfl
theorem take1 (zs : List Int) (h : 1 ≤ zs.length) : zs.take 1 = [zs.getD 0 0] := by
  match zs, h with
  | a :: _, _ => rfl
set_option maxHeartbeats 1000000 in
theorem getBytes_4 (b off n cap : Nat) (zs : List Int) (w : World) (h : BS w (some ⟨b, off, none⟩) n cap zs) (hn : 4 ≤ n) :
    Calls Try.prog 53 #[.slice (some ⟨b, off, none⟩) n cap, .int .i64 4] w fun e w' => e = .returned (.int .i64 (low (zs.take 4))) ∧ Below w.heap.size w w' := by
  have r0 := h.range 0
  have r1 := h.range 1
  have r2 := h.range 2
  have r3 := h.range 3
  have c0 := h.at 0 (by omega)
  have c1 := h.at 1 (by omega)
  have c2 := h.at 2 (by omega)
  have c3 := h.at 3 (by omega)
  simp only [Nat.add_zero] at c0
  have hl : (3 : Int) < (n : Int) := by omega
  rw [take4 zs (by rw [h.1]; omega)]
  clear h
  generalize zs.getD 0 0 = z0 at *
  generalize zs.getD 1 0 = z1 at *
  generalize zs.getD 2 0 = z2 at *
  generalize zs.getD 3 0 = z3 at *
  obtain ⟨p0, p0'⟩ := r0
  obtain ⟨p1, p1'⟩ := r1
  obtain ⟨p2, p2'⟩ := r2
  obtain ⟨p3, p3'⟩ := r3
  have HS := hide (or4 z0 z1 z2 z3 p0 p0' p1 p1' p2 p2' p3 p3')
  generalize low [z0, z1, z2, z3] = L at *
  go_enter Try.func53, Try.ntmps53
  go_wp2
  go_quiet (fail)
  go_wp2
  go_ret
  exact ⟨ret_int HS.out, below_drewN (Below.refl _ _) _⟩
set_option maxHeartbeats 1000000 in
theorem getBytes_2 (b off n cap : Nat) (zs : List Int) (w : World) (h : BS w (some ⟨b, off, none⟩) n cap zs) (hn : 2 ≤ n) :
    Calls Try.prog 53 #[.slice (some ⟨b, off, none⟩) n cap, .int .i64 2] w fun e w' => e = .returned (.int .i64 (low (zs.take 2))) ∧ Below w.heap.size w w' := by
  have r0 := h.range 0
  have r1 := h.range 1
  have c0 := h.at 0 (by omega)
  have c1 := h.at 1 (by omega)
  simp only [Nat.add_zero] at c0
  have hl : (1 : Int) < (n : Int) := by omega
  rw [take2 zs (by rw [h.1]; omega)]
  clear h
  generalize zs.getD 0 0 = z0 at *
  generalize zs.getD 1 0 = z1 at *
  obtain ⟨p0, p0'⟩ := r0
  obtain ⟨p1, p1'⟩ := r1
  have HS := hide (or2 z0 z1 p0 p0' p1 p1')
  generalize low [z0, z1] = L at *
  go_enter Try.func53, Try.ntmps53
  go_wp2
  go_ret
  exact ⟨ret_int HS.out, Below.refl _ _⟩
set_option maxHeartbeats 1000000 in
theorem getBytes_1 (b off n cap : Nat) (zs : List Int) (w : World) (h : BS w (some ⟨b, off, none⟩) n cap zs) (hn : 1 ≤ n) :
    Calls Try.prog 53 #[.slice (some ⟨b, off, none⟩) n cap, .int .i64 1] w fun e w' => e = .returned (.int .i64 (low (zs.take 1))) ∧ Below w.heap.size w w' := by
  have r0 := h.range 0
  have c0 := h.at 0 (by omega)
  simp only [Nat.add_zero] at c0
  have hl : (0 : Int) < (n : Int) := by omega
  rw [take1 zs (by rw [h.1]; omega)]
  clear h
  generalize zs.getD 0 0 = z0 at *
  obtain ⟨p0, p0'⟩ := r0
  have HS := hide (or1 z0 p0 p0')
  generalize low [z0] = L at *
  go_enter Try.func53, Try.ntmps53
  go_wp2
  go_ret
  exact ⟨ret_int HS.out, Below.refl _ _⟩
end Go.Proofs.Ytngdgogjlpjjpac
