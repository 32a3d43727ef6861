import Derived.Test.YtngdgogjlpjjpadP00
import Derived.Test.YtngdgogjlpjjpadP01
import Derived.Test.YtngdgogjlpjjpadP04
namespace Go.Proofs.Ytngdgogjlpjjpad
open Go.RowKit
set_option linter.unusedVariables false
set_option linter.unusedSimpArgs false
def InsDr (w : World) (r : Nat) (a : Option Addr) (n c : Nat) (zs : List Int) (o d x i : Int) (k' : Nat) (e : Ending) (w' : World) : Prop :=
  e = .returned (.agg #[.int .i64 o, .int .i64 d, .int .i64 x, .int .i64 i]) ∧ Rdr w' r a n c zs k' ∧ Turn (fun j => j = r) w w'
theorem draw_of {zs : List Int} (h : ∀ j, 0 ≤ zs.getD j 0 ∧ zs.getD j 0 ≤ 255) (k : Nat) : ∃ v : Int, Hid (zs.getD k 0 = v) ∧ 0 ≤ v ∧ v ≤ 255 := ⟨_, rfl, (h k).1, (h k).2⟩
theorem opTab_at (i : Nat) (hi : i < 25) : ∃ o : Int, 1 ≤ o ∧ o ≤ 25 ∧ ∀ W : World, (W.alloc (.cells #[.int .i64 2, .int .i64 6, .int .i64 15, .int .i64 16, .int .i64 19, .int .i64 20, .int .i64 21, .int .i64 22, .int .i64 23, .int .i64 24, .int .i64 25, .int .i64 1, .int .i64 3, .int .i64 4, .int .i64 5, .int .i64 7, .int .i64 8, .int .i64 9, .int .i64 10, .int .i64 11, .int .i64 12, .int .i64 13, .int .i64 14, .int .i64 17, .int .i64 18] 3)).cell? ⟨W.heap.size, i, none⟩ = some (.int .i64 o) := by
  have hc := fun W => (Blk.new W #[.int .i64 2, .int .i64 6, .int .i64 15, .int .i64 16, .int .i64 19, .int .i64 20, .int .i64 21, .int .i64 22, .int .i64 23, .int .i64 24, .int .i64 25, .int .i64 1, .int .i64 3, .int .i64 4, .int .i64 5, .int .i64 7, .int .i64 8, .int .i64 9, .int .i64 10, .int .i64 11, .int .i64 12, .int .i64 13, .int .i64 14, .int .i64 17, .int .i64 18] 3).cell i
  match i, hi with
  | 0, _ => exact ⟨_, by decide, by decide, hc⟩
  | 1, _ => exact ⟨_, by decide, by decide, hc⟩
  | 2, _ => exact ⟨_, by decide, by decide, hc⟩
  | 3, _ => exact ⟨_, by decide, by decide, hc⟩
  | 4, _ => exact ⟨_, by decide, by decide, hc⟩
  | 5, _ => exact ⟨_, by decide, by decide, hc⟩
  | 6, _ => exact ⟨_, by decide, by decide, hc⟩
  | 7, _ => exact ⟨_, by decide, by decide, hc⟩
  | 8, _ => exact ⟨_, by decide, by decide, hc⟩
  | 9, _ => exact ⟨_, by decide, by decide, hc⟩
  | 10, _ => exact ⟨_, by decide, by decide, hc⟩
  | 11, _ => exact ⟨_, by decide, by decide, hc⟩
  | 12, _ => exact ⟨_, by decide, by decide, hc⟩
  | 13, _ => exact ⟨_, by decide, by decide, hc⟩
  | 14, _ => exact ⟨_, by decide, by decide, hc⟩
  | 15, _ => exact ⟨_, by decide, by decide, hc⟩
  | 16, _ => exact ⟨_, by decide, by decide, hc⟩
  | 17, _ => exact ⟨_, by decide, by decide, hc⟩
  | 18, _ => exact ⟨_, by decide, by decide, hc⟩
  | 19, _ => exact ⟨_, by decide, by decide, hc⟩
  | 20, _ => exact ⟨_, by decide, by decide, hc⟩
  | 21, _ => exact ⟨_, by decide, by decide, hc⟩
  | 22, _ => exact ⟨_, by decide, by decide, hc⟩
  | 23, _ => exact ⟨_, by decide, by decide, hc⟩
  | 24, _ => exact ⟨_, by decide, by decide, hc⟩
  | i + 25, h => omega
theorem aTab_at (i : Nat) (hi : i < 8) : ∃ o : Int, 0 ≤ o ∧ o ≤ 7 ∧ ∀ W : World, (W.alloc (.cells #[.int .i64 7, .int .i64 6, .int .i64 0, .int .i64 1, .int .i64 2, .int .i64 7, .int .i64 6, .int .i64 3] 3)).cell? ⟨W.heap.size, i, none⟩ = some (.int .i64 o) := by
  have hc := fun W => (Blk.new W #[.int .i64 7, .int .i64 6, .int .i64 0, .int .i64 1, .int .i64 2, .int .i64 7, .int .i64 6, .int .i64 3] 3).cell i
  match i, hi with
  | 0, _ => exact ⟨_, by decide, by decide, hc⟩
  | 1, _ => exact ⟨_, by decide, by decide, hc⟩
  | 2, _ => exact ⟨_, by decide, by decide, hc⟩
  | 3, _ => exact ⟨_, by decide, by decide, hc⟩
  | 4, _ => exact ⟨_, by decide, by decide, hc⟩
  | 5, _ => exact ⟨_, by decide, by decide, hc⟩
  | 6, _ => exact ⟨_, by decide, by decide, hc⟩
  | 7, _ => exact ⟨_, by decide, by decide, hc⟩
  | i + 8, h => omega
structure Is (w W : World) (r : Nat) (a : Option Addr) (n c : Nat) (zs : List Int) (k' G : Nat) (o d x i : Int) : Prop where
  res : Blk W w.heap.size #[.int .i64 0, .int .i64 0, .int .i64 0, .int .i64 0] 129
  ins : Blk W G #[.int .i64 o, .int .i64 d, .int .i64 x, .int .i64 i] 129
  rd : Rdr W r a n c zs k'
  turn : Turn (fun j => j = r) w W
  big : w.heap.size < G
  low : r < w.heap.size
  code : n ≠ 0 → ∀ b off, a = some ⟨b, off, none⟩ → b < w.heap.size
theorem Is.other {w W : World} {r : Nat} {a : Option Addr} {n c : Nat} {zs : List Int} {k' G : Nat} {o d x i : Int} (h : Is w W r a n c zs k' G o d x i) (j : Nat) (v : Value) (d' x' i' : Int) (hz : Blk (W.setCell ⟨G, j, none⟩ v) G #[.int .i64 o, .int .i64 d', .int .i64 x', .int .i64 i'] 129) : Is w (W.setCell ⟨G, j, none⟩ v) r a n c zs k' G o d' x' i' := by
  have hb := h.big
  have hl := h.low
  exact ⟨h.res.other _ _ (by dsimp only; omega), hz, rdr_set h.rd (by omega) (fun h0 b off e => by have := h.code h0 b off e; omega) _ _, turn_new h.turn (by omega) _ _, hb, hl, h.code⟩
theorem Is.set1 {w W : World} {r : Nat} {a : Option Addr} {n c : Nat} {zs : List Int} {k' G : Nat} {o d x i : Int} (h : Is w W r a n c zs k' G o d x i) (v : Int) : Is w (W.setCell ⟨G, 1, none⟩ (.int .i64 v)) r a n c zs k' G o v x i := h.other 1 _ v x i (h.ins.set 1 (.int .i64 v))
theorem Is.set2 {w W : World} {r : Nat} {a : Option Addr} {n c : Nat} {zs : List Int} {k' G : Nat} {o d x i : Int} (h : Is w W r a n c zs k' G o d x i) (v : Int) : Is w (W.setCell ⟨G, 2, none⟩ (.int .i64 v)) r a n c zs k' G o d v i := h.other 2 _ d v i (h.ins.set 2 (.int .i64 v))
theorem Is.set3 {w W : World} {r : Nat} {a : Option Addr} {n c : Nat} {zs : List Int} {k' G : Nat} {o d x i : Int} (h : Is w W r a n c zs k' G o d x i) (v : Int) : Is w (W.setCell ⟨G, 3, none⟩ (.int .i64 v)) r a n c zs k' G o d x v := h.other 3 _ d x v (h.ins.set 3 (.int .i64 v))
theorem Is.more {w W : World} {r : Nat} {a : Option Addr} {n c : Nat} {zs : List Int} {k' G : Nat} {o d x i : Int} (h : Is w W r a n c zs k' G o d x i) (O : Obj) : Is w (W.alloc O) r a n c zs k' G o d x i :=
  ⟨h.res.alloc O, h.ins.alloc O, rdr_alloc h.rd O, turn_more h.turn O, h.big, h.low, h.code⟩
theorem Is.next {w W W' : World} {r : Nat} {a : Option Addr} {n c : Nat} {zs : List Int} {k' k2 G : Nat} {o d x i : Int} (h : Is w W r a n c zs k' G o d x i) (hr : Rdr W' r a n c zs k2) (t : Turn (fun j => j = r) W W') : Is w W' r a n c zs k2 G o d x i := by
  have hb := h.big
  have hl := h.low
  exact ⟨turn_blk t h.res (by omega), turn_blk t h.ins (by omega), hr, h.turn.trans t, hb, hl, h.code⟩
theorem Is.done {w W : World} {r : Nat} {a : Option Addr} {n c : Nat} {zs : List Int} {k' G : Nat} {o d x i : Int} (h : Is w W r a n c zs k' G o d x i) (fn : Func) (hf : fn.results = #[.cell 2 129]) (tmps : Array Value) (h2 : tmps[2]? = some (.pointer (some ⟨w.heap.size, 0, none⟩))) (hb : -1 ≤ o ∧ o ≤ 64 ∧ -1 ≤ d ∧ d ≤ 10 ∧ -1 ≤ x ∧ x ≤ 10 ∧ -1 ≤ i ∧ i ≤ 65536) :
    bodyPost Try.prog fn (InsDr w r a n c zs o d x i k') Exit.ret ⟨tmps, []⟩ ((((W.setCell ⟨w.heap.size, 0, none⟩ (.int .i64 o)).setCell ⟨w.heap.size, 1, none⟩ (.int .i64 d)).setCell ⟨w.heap.size, 2, none⟩ (.int .i64 x)).setCell ⟨w.heap.size, 3, none⟩ (.int .i64 i)) := by
  have hl := h.low
  have hc' : n ≠ 0 → ∀ b' off, a = some ⟨b', off, none⟩ → b' ≠ w.heap.size := fun h0 b off e => by have := h.code h0 b off e; omega
  have hz := ins_set h.res o d x i
  have hR := rdr_set (rdr_set (rdr_set (rdr_set h.rd (show r ≠ w.heap.size by omega) hc' 0 (.int .i64 o)) (by omega) hc' 1 (.int .i64 d)) (by omega) hc' 2 (.int .i64 x)) (by omega) hc' 3 (.int .i64 i)
  have hT := turn_new (turn_new (turn_new (turn_new h.turn (Nat.le_refl _) 0 (.int .i64 o)) (Nat.le_refl _) 1 (.int .i64 d)) (Nat.le_refl _) 2 (.int .i64 x)) (Nat.le_refl _) 3 (.int .i64 i)
  generalize (((W.setCell ⟨w.heap.size, 0, none⟩ (.int .i64 o)).setCell ⟨w.heap.size, 1, none⟩ (.int .i64 d)).setCell ⟨w.heap.size, 2, none⟩ (.int .i64 x)).setCell ⟨w.heap.size, 3, none⟩ (.int .i64 i) = V at *
  refine bodyPost_ret (v := .agg #[.int .i64 o, .int .i64 d, .int .i64 x, .int .i64 i]) ?_ rfl ⟨rfl, hR, hT⟩
  obtain ⟨p1, p2, p3, p4, p5⟩ := hz.four'
  simp [results, hf, go_sem, h2, p1, p2, p3, p4]
theorem Is.doneA {w W : World} {r : Nat} {a : Option Addr} {n c : Nat} {zs : List Int} {k' G : Nat} {o d x i : Int} (h : Is w W r a n c zs k' G o d x i) (fn : Func) (hf : fn.results = #[.cell 2 129]) (O : Obj) (tmps : Array Value) (h2 : tmps[2]? = some (.pointer (some ⟨w.heap.size, 0, none⟩))) (hb : -1 ≤ o ∧ o ≤ 64 ∧ -1 ≤ d ∧ d ≤ 10 ∧ -1 ≤ x ∧ x ≤ 10 ∧ -1 ≤ i ∧ i ≤ 65536) :
    bodyPost Try.prog fn (InsDr w r a n c zs o d x i k') Exit.ret ⟨tmps, []⟩ (((((W.setCell ⟨w.heap.size, 0, none⟩ (.int .i64 o)).setCell ⟨w.heap.size, 1, none⟩ (.int .i64 d)).setCell ⟨w.heap.size, 2, none⟩ (.int .i64 x)).setCell ⟨w.heap.size, 3, none⟩ (.int .i64 i)).alloc O) := by
  have hl := h.low
  have hc' : n ≠ 0 → ∀ b' off, a = some ⟨b', off, none⟩ → b' ≠ w.heap.size := fun h0 b off e => by have := h.code h0 b off e; omega
  have hz := (ins_set h.res o d x i).alloc O
  have hR := rdr_alloc (rdr_set (rdr_set (rdr_set (rdr_set h.rd (show r ≠ w.heap.size by omega) hc' 0 (.int .i64 o)) (by omega) hc' 1 (.int .i64 d)) (by omega) hc' 2 (.int .i64 x)) (by omega) hc' 3 (.int .i64 i)) O
  have hT := turn_more (turn_new (turn_new (turn_new (turn_new h.turn (Nat.le_refl _) 0 (.int .i64 o)) (Nat.le_refl _) 1 (.int .i64 d)) (Nat.le_refl _) 2 (.int .i64 x)) (Nat.le_refl _) 3 (.int .i64 i)) O
  generalize ((((W.setCell ⟨w.heap.size, 0, none⟩ (.int .i64 o)).setCell ⟨w.heap.size, 1, none⟩ (.int .i64 d)).setCell ⟨w.heap.size, 2, none⟩ (.int .i64 x)).setCell ⟨w.heap.size, 3, none⟩ (.int .i64 i)).alloc O = V at *
  refine bodyPost_ret (v := .agg #[.int .i64 o, .int .i64 d, .int .i64 x, .int .i64 i]) ?_ rfl ⟨rfl, hR, hT⟩
  obtain ⟨p1, p2, p3, p4, p5⟩ := hz.four'
  simp [results, hf, go_sem, h2, p1, p2, p3, p4]
end Go.Proofs.Ytngdgogjlpjjpad
namespace Go.Proofs.Ytngdgogjlpjjpad
open Go.RowKit
set_option linter.unusedVariables false
set_option maxRecDepth 100000
def IS (w : World) (a : Option Addr) (n cap : Nat) (zs : List Int) : Prop :=
  zs.length = n ∧ n ≤ maxLen ∧ (∀ z ∈ zs, wfi z) ∧ (n ≠ 0 → ∃ b off, a = some ⟨b, off, none⟩ ∧ ∀ i, i < n → w.cell? ⟨b, off + i, none⟩ = some (.int .i64 (zs.getD i 0))) ∧ n ≤ cap
theorem IS.below {w w' : World} {a : Option Addr} {n cap : Nat} {zs : List Int} (h : IS w a n cap zs) (hb : Below w.heap.size w w') : IS w' a n cap zs := by
  obtain ⟨h1, h2, h3, h4, h5⟩ := h
  refine ⟨h1, h2, h3, fun hn => ?_, h5⟩
  obtain ⟨b, off, ha, hc⟩ := h4 hn
  refine ⟨b, off, ha, fun i hi => ?_⟩
  have := hc i hi
  rw [hb.cell (p := ⟨b, off + i, none⟩) (World.block_lt_of_cell? w _ this)]
  exact this
theorem IS.range {w : World} {a : Option Addr} {n cap : Nat} {zs : List Int} (h : IS w a n cap zs) (i : Nat) : wfi (zs.getD i 0) := by
  by_cases hi : i < zs.length
  · have := h.2.2.1 zs[i] (List.getElem_mem hi)
    simpa [List.getD_eq_getElem?_getD, hi] using this
  · simp [List.getD_eq_getElem?_getD, Nat.le_of_not_lt hi, wfi]
def RowI (w : World) (g : Nat) (zs : List Int) : Prop := w.heap[g]? = some (.cells (zs.map (Value.int .i64)).toArray 3 (0, 0))
theorem RowI.cell {w : World} {g : Nat} {zs : List Int} (h : RowI w g zs) (i : Nat) (hi : i < zs.length) : w.cell? ⟨g, i, none⟩ = some (.int .i64 (zs.getD i 0)) := by
  rw [cell_of_row w g i _ _ _ h]; simp [List.getD_eq_getElem?_getD, hi]
theorem RowI.frozen {w : World} {g : Nat} {zs : List Int} (h : RowI w g zs) (i : Nat) : w.frozen? ⟨g, i, none⟩ = false := frozen_of_row w g i _ _ h
theorem RowI.set {w : World} {g : Nat} {zs : List Int} (h : RowI w g zs) (i : Nat) (z : Int) : RowI (w.setCell ⟨g, i, none⟩ (.int .i64 z)) g (zs.set i z) := by
  unfold RowI at *
  rw [heap_setCell_same w g i _ _ _ h]
  simp [List.map_set]
theorem RowI.lt {w : World} {g : Nat} {zs : List Int} (h : RowI w g zs) : g < w.heap.size := by
  unfold RowI at h
  by_cases hg : g < w.heap.size
  · exact hg
  · simp [Array.getElem?_eq_none (Nat.le_of_not_lt hg)] at h
theorem RowI.below {w w' : World} {g : Nat} {zs : List Int} (h : RowI w g zs) (hb : Below w.heap.size w w') : RowI w' g zs := by
  have := hb.block g h.lt
  unfold RowI at *
  rw [this]; exact h
theorem infoI : (Try.prog.info? 3).map (fun i => (i.zero, i.size, i.bytes)) = some (some (.int .i64 0), 1, 8) := by kernel_rfl
end Go.Proofs.Ytngdgogjlpjjpad
