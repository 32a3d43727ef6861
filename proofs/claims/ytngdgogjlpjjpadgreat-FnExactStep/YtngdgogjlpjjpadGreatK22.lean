import Derived.Test.YtngdgogjlpjjpadGreatK08
import Derived.Deep.MidRow
namespace Go.Proofs.YtngdgogjlpjjpadGreat
open Go.RowKit
set_option linter.unusedVariables false
set_option linter.unusedSimpArgs false
set_option maxRecDepth 100000

def opRow : Array Value := #[.nilFunc, .func (Fn.func 223) #[] #[], .func (Fn.func 225) #[] #[], .func (Fn.func 227) #[] #[], .func (Fn.func 229) #[] #[], .func (Fn.func 231) #[] #[], .func (Fn.func 232) #[] #[], .func (Fn.func 234) #[] #[], .func (Fn.func 235) #[] #[], .func (Fn.func 236) #[] #[], .func (Fn.func 237) #[] #[], .func (Fn.func 238) #[] #[], .func (Fn.func 239) #[] #[], .func (Fn.func 240) #[] #[], .func (Fn.func 241) #[] #[], .func (Fn.func 243) #[] #[], .func (Fn.func 244) #[] #[], .func (Fn.func 245) #[] #[], .func (Fn.func 247) #[] #[], .func (Fn.func 248) #[] #[], .func (Fn.func 249) #[] #[], .func (Fn.func 251) #[] #[], .func (Fn.func 252) #[] #[], .func (Fn.func 253) #[] #[], .func (Fn.func 255) #[] #[], .func (Fn.func 256) #[] #[]]

def nilRow : Array Value := #[.nilFunc, .nilFunc, .nilFunc, .nilFunc, .nilFunc, .nilFunc, .nilFunc, .nilFunc, .nilFunc, .nilFunc, .nilFunc, .nilFunc, .nilFunc, .nilFunc, .nilFunc, .nilFunc, .nilFunc, .nilFunc, .nilFunc, .nilFunc, .nilFunc, .nilFunc, .nilFunc, .nilFunc, .nilFunc, .nilFunc]
theorem there_row (w : World) (t : TypeId) : (w.alloc (.cells nilRow t)).there w.heap.size 0 26 := by
  intro j hj
  have k := Blk.new w nilRow t
  rw [Nat.zero_add]
  refine ⟨?_, k.frozen j⟩
  rw [k.cell, Array.getElem?_eq_getElem (show j < nilRow.size from hj)]
  rfl

theorem row_one : (opRow.all fun x => x.oneCell') = true := by kernel_rfl
theorem below_cells (B b : Nat) (a : World) (hb : B ≤ b) : ∀ (vs : List Value) (o : Nat) (w : World), Below B a w → Below B a (w.setCells b o vs)
  | [], o, w, h => h
  | v :: vs, o, w, h => below_cells B b a hb vs (o + 1) _ (h.setCell (p := ⟨b, o, none⟩) hb v)

set_option maxHeartbeats 1000000 in
theorem operationOf_1 (w : World) :
    Calls Tryz.prog 171 #[.int .i64 1] w fun e w' => e = .returned (.func (Fn.func 223) #[] #[]) ∧ Below w.heap.size w w' := by
  have HT := hide (there_row w 248)
  have hc : ((w.alloc (.cells nilRow 248)).setCells w.heap.size 0 opRow.toList).cell? ⟨w.heap.size, 1, none⟩ = some (.func (Fn.func 223) #[] #[]) :=
    World.rangeAt_setCells_same _ w.heap.size 0 opRow.toList HT.out 1 _ rfl
  have HB := hide (below_cells w.heap.size w.heap.size w (Nat.le_refl _) opRow.toList 0 _ ((Below.refl w.heap.size w).alloc (Nat.le_refl _) (.cells nilRow 248)))
  go_enter Tryz.func171, Tryz.ntmps171
  go_wp2_with ((with_reducible refine wpList_store_mid rfl 248 (Operand.tmp 3) (Operand.tmp 4) rfl w.heap.size 0 opRow ?_ ?_ ?_ ?_ ?_ ?_); rfl; rfl; exact HT.out; kernel_rfl; exact row_one; have hc' := hc; have HX := HB; generalize hW : (w.alloc (Obj.cells nilRow 248)).setCells w.heap.size 0 opRow.toList = W1 at hc' HX; (first | rw [show (w.alloc (Obj.cells #[.nilFunc, .nilFunc, .nilFunc, .nilFunc, .nilFunc, .nilFunc, .nilFunc, .nilFunc, .nilFunc, .nilFunc, .nilFunc, .nilFunc, .nilFunc, .nilFunc, .nilFunc, .nilFunc, .nilFunc, .nilFunc, .nilFunc, .nilFunc, .nilFunc, .nilFunc, .nilFunc, .nilFunc, .nilFunc, .nilFunc] 248)).setCells w.heap.size 0 opRow.toList = W1 from hW]); clear hW hc)
  go_ret
  exact ⟨rfl, HX.out⟩
set_option maxHeartbeats 1000000 in
theorem operationOf_2 (w : World) :
    Calls Tryz.prog 171 #[.int .i64 2] w fun e w' => e = .returned (.func (Fn.func 225) #[] #[]) ∧ Below w.heap.size w w' := by
  have HT := hide (there_row w 248)
  have hc : ((w.alloc (.cells nilRow 248)).setCells w.heap.size 0 opRow.toList).cell? ⟨w.heap.size, 2, none⟩ = some (.func (Fn.func 225) #[] #[]) :=
    World.rangeAt_setCells_same _ w.heap.size 0 opRow.toList HT.out 2 _ rfl
  have HB := hide (below_cells w.heap.size w.heap.size w (Nat.le_refl _) opRow.toList 0 _ ((Below.refl w.heap.size w).alloc (Nat.le_refl _) (.cells nilRow 248)))
  go_enter Tryz.func171, Tryz.ntmps171
  go_wp2_with ((with_reducible refine wpList_store_mid rfl 248 (Operand.tmp 3) (Operand.tmp 4) rfl w.heap.size 0 opRow ?_ ?_ ?_ ?_ ?_ ?_); rfl; rfl; exact HT.out; kernel_rfl; exact row_one; have hc' := hc; have HX := HB; generalize hW : (w.alloc (Obj.cells nilRow 248)).setCells w.heap.size 0 opRow.toList = W1 at hc' HX; (first | rw [show (w.alloc (Obj.cells #[.nilFunc, .nilFunc, .nilFunc, .nilFunc, .nilFunc, .nilFunc, .nilFunc, .nilFunc, .nilFunc, .nilFunc, .nilFunc, .nilFunc, .nilFunc, .nilFunc, .nilFunc, .nilFunc, .nilFunc, .nilFunc, .nilFunc, .nilFunc, .nilFunc, .nilFunc, .nilFunc, .nilFunc, .nilFunc, .nilFunc] 248)).setCells w.heap.size 0 opRow.toList = W1 from hW]); clear hW hc)
  go_ret
  exact ⟨rfl, HX.out⟩
set_option maxHeartbeats 1000000 in
theorem operationOf_3 (w : World) :
    Calls Tryz.prog 171 #[.int .i64 3] w fun e w' => e = .returned (.func (Fn.func 227) #[] #[]) ∧ Below w.heap.size w w' := by
  have HT := hide (there_row w 248)
  have hc : ((w.alloc (.cells nilRow 248)).setCells w.heap.size 0 opRow.toList).cell? ⟨w.heap.size, 3, none⟩ = some (.func (Fn.func 227) #[] #[]) :=
    World.rangeAt_setCells_same _ w.heap.size 0 opRow.toList HT.out 3 _ rfl
  have HB := hide (below_cells w.heap.size w.heap.size w (Nat.le_refl _) opRow.toList 0 _ ((Below.refl w.heap.size w).alloc (Nat.le_refl _) (.cells nilRow 248)))
  go_enter Tryz.func171, Tryz.ntmps171
  go_wp2_with ((with_reducible refine wpList_store_mid rfl 248 (Operand.tmp 3) (Operand.tmp 4) rfl w.heap.size 0 opRow ?_ ?_ ?_ ?_ ?_ ?_); rfl; rfl; exact HT.out; kernel_rfl; exact row_one; have hc' := hc; have HX := HB; generalize hW : (w.alloc (Obj.cells nilRow 248)).setCells w.heap.size 0 opRow.toList = W1 at hc' HX; (first | rw [show (w.alloc (Obj.cells #[.nilFunc, .nilFunc, .nilFunc, .nilFunc, .nilFunc, .nilFunc, .nilFunc, .nilFunc, .nilFunc, .nilFunc, .nilFunc, .nilFunc, .nilFunc, .nilFunc, .nilFunc, .nilFunc, .nilFunc, .nilFunc, .nilFunc, .nilFunc, .nilFunc, .nilFunc, .nilFunc, .nilFunc, .nilFunc, .nilFunc] 248)).setCells w.heap.size 0 opRow.toList = W1 from hW]); clear hW hc)
  go_ret
  exact ⟨rfl, HX.out⟩
set_option maxHeartbeats 1000000 in
theorem operationOf_4 (w : World) :
    Calls Tryz.prog 171 #[.int .i64 4] w fun e w' => e = .returned (.func (Fn.func 229) #[] #[]) ∧ Below w.heap.size w w' := by
  have HT := hide (there_row w 248)
  have hc : ((w.alloc (.cells nilRow 248)).setCells w.heap.size 0 opRow.toList).cell? ⟨w.heap.size, 4, none⟩ = some (.func (Fn.func 229) #[] #[]) :=
    World.rangeAt_setCells_same _ w.heap.size 0 opRow.toList HT.out 4 _ rfl
  have HB := hide (below_cells w.heap.size w.heap.size w (Nat.le_refl _) opRow.toList 0 _ ((Below.refl w.heap.size w).alloc (Nat.le_refl _) (.cells nilRow 248)))
  go_enter Tryz.func171, Tryz.ntmps171
  go_wp2_with ((with_reducible refine wpList_store_mid rfl 248 (Operand.tmp 3) (Operand.tmp 4) rfl w.heap.size 0 opRow ?_ ?_ ?_ ?_ ?_ ?_); rfl; rfl; exact HT.out; kernel_rfl; exact row_one; have hc' := hc; have HX := HB; generalize hW : (w.alloc (Obj.cells nilRow 248)).setCells w.heap.size 0 opRow.toList = W1 at hc' HX; (first | rw [show (w.alloc (Obj.cells #[.nilFunc, .nilFunc, .nilFunc, .nilFunc, .nilFunc, .nilFunc, .nilFunc, .nilFunc, .nilFunc, .nilFunc, .nilFunc, .nilFunc, .nilFunc, .nilFunc, .nilFunc, .nilFunc, .nilFunc, .nilFunc, .nilFunc, .nilFunc, .nilFunc, .nilFunc, .nilFunc, .nilFunc, .nilFunc, .nilFunc] 248)).setCells w.heap.size 0 opRow.toList = W1 from hW]); clear hW hc)
  go_ret
  exact ⟨rfl, HX.out⟩
set_option maxHeartbeats 1000000 in
theorem operationOf_5 (w : World) :
    Calls Tryz.prog 171 #[.int .i64 5] w fun e w' => e = .returned (.func (Fn.func 231) #[] #[]) ∧ Below w.heap.size w w' := by
  have HT := hide (there_row w 248)
  have hc : ((w.alloc (.cells nilRow 248)).setCells w.heap.size 0 opRow.toList).cell? ⟨w.heap.size, 5, none⟩ = some (.func (Fn.func 231) #[] #[]) :=
    World.rangeAt_setCells_same _ w.heap.size 0 opRow.toList HT.out 5 _ rfl
  have HB := hide (below_cells w.heap.size w.heap.size w (Nat.le_refl _) opRow.toList 0 _ ((Below.refl w.heap.size w).alloc (Nat.le_refl _) (.cells nilRow 248)))
  go_enter Tryz.func171, Tryz.ntmps171
  go_wp2_with ((with_reducible refine wpList_store_mid rfl 248 (Operand.tmp 3) (Operand.tmp 4) rfl w.heap.size 0 opRow ?_ ?_ ?_ ?_ ?_ ?_); rfl; rfl; exact HT.out; kernel_rfl; exact row_one; have hc' := hc; have HX := HB; generalize hW : (w.alloc (Obj.cells nilRow 248)).setCells w.heap.size 0 opRow.toList = W1 at hc' HX; (first | rw [show (w.alloc (Obj.cells #[.nilFunc, .nilFunc, .nilFunc, .nilFunc, .nilFunc, .nilFunc, .nilFunc, .nilFunc, .nilFunc, .nilFunc, .nilFunc, .nilFunc, .nilFunc, .nilFunc, .nilFunc, .nilFunc, .nilFunc, .nilFunc, .nilFunc, .nilFunc, .nilFunc, .nilFunc, .nilFunc, .nilFunc, .nilFunc, .nilFunc] 248)).setCells w.heap.size 0 opRow.toList = W1 from hW]); clear hW hc)
  go_ret
  exact ⟨rfl, HX.out⟩
set_option maxHeartbeats 1000000 in
theorem operationOf_6 (w : World) :
    Calls Tryz.prog 171 #[.int .i64 6] w fun e w' => e = .returned (.func (Fn.func 232) #[] #[]) ∧ Below w.heap.size w w' := by
  have HT := hide (there_row w 248)
  have hc : ((w.alloc (.cells nilRow 248)).setCells w.heap.size 0 opRow.toList).cell? ⟨w.heap.size, 6, none⟩ = some (.func (Fn.func 232) #[] #[]) :=
    World.rangeAt_setCells_same _ w.heap.size 0 opRow.toList HT.out 6 _ rfl
  have HB := hide (below_cells w.heap.size w.heap.size w (Nat.le_refl _) opRow.toList 0 _ ((Below.refl w.heap.size w).alloc (Nat.le_refl _) (.cells nilRow 248)))
  go_enter Tryz.func171, Tryz.ntmps171
  go_wp2_with ((with_reducible refine wpList_store_mid rfl 248 (Operand.tmp 3) (Operand.tmp 4) rfl w.heap.size 0 opRow ?_ ?_ ?_ ?_ ?_ ?_); rfl; rfl; exact HT.out; kernel_rfl; exact row_one; have hc' := hc; have HX := HB; generalize hW : (w.alloc (Obj.cells nilRow 248)).setCells w.heap.size 0 opRow.toList = W1 at hc' HX; (first | rw [show (w.alloc (Obj.cells #[.nilFunc, .nilFunc, .nilFunc, .nilFunc, .nilFunc, .nilFunc, .nilFunc, .nilFunc, .nilFunc, .nilFunc, .nilFunc, .nilFunc, .nilFunc, .nilFunc, .nilFunc, .nilFunc, .nilFunc, .nilFunc, .nilFunc, .nilFunc, .nilFunc, .nilFunc, .nilFunc, .nilFunc, .nilFunc, .nilFunc] 248)).setCells w.heap.size 0 opRow.toList = W1 from hW]); clear hW hc)
  go_ret
  exact ⟨rfl, HX.out⟩
set_option maxHeartbeats 1000000 in
theorem operationOf_7 (w : World) :
    Calls Tryz.prog 171 #[.int .i64 7] w fun e w' => e = .returned (.func (Fn.func 234) #[] #[]) ∧ Below w.heap.size w w' := by
  have HT := hide (there_row w 248)
  have hc : ((w.alloc (.cells nilRow 248)).setCells w.heap.size 0 opRow.toList).cell? ⟨w.heap.size, 7, none⟩ = some (.func (Fn.func 234) #[] #[]) :=
    World.rangeAt_setCells_same _ w.heap.size 0 opRow.toList HT.out 7 _ rfl
  have HB := hide (below_cells w.heap.size w.heap.size w (Nat.le_refl _) opRow.toList 0 _ ((Below.refl w.heap.size w).alloc (Nat.le_refl _) (.cells nilRow 248)))
  go_enter Tryz.func171, Tryz.ntmps171
  go_wp2_with ((with_reducible refine wpList_store_mid rfl 248 (Operand.tmp 3) (Operand.tmp 4) rfl w.heap.size 0 opRow ?_ ?_ ?_ ?_ ?_ ?_); rfl; rfl; exact HT.out; kernel_rfl; exact row_one; have hc' := hc; have HX := HB; generalize hW : (w.alloc (Obj.cells nilRow 248)).setCells w.heap.size 0 opRow.toList = W1 at hc' HX; (first | rw [show (w.alloc (Obj.cells #[.nilFunc, .nilFunc, .nilFunc, .nilFunc, .nilFunc, .nilFunc, .nilFunc, .nilFunc, .nilFunc, .nilFunc, .nilFunc, .nilFunc, .nilFunc, .nilFunc, .nilFunc, .nilFunc, .nilFunc, .nilFunc, .nilFunc, .nilFunc, .nilFunc, .nilFunc, .nilFunc, .nilFunc, .nilFunc, .nilFunc] 248)).setCells w.heap.size 0 opRow.toList = W1 from hW]); clear hW hc)
  go_ret
  exact ⟨rfl, HX.out⟩
set_option maxHeartbeats 1000000 in
theorem operationOf_8 (w : World) :
    Calls Tryz.prog 171 #[.int .i64 8] w fun e w' => e = .returned (.func (Fn.func 235) #[] #[]) ∧ Below w.heap.size w w' := by
  have HT := hide (there_row w 248)
  have hc : ((w.alloc (.cells nilRow 248)).setCells w.heap.size 0 opRow.toList).cell? ⟨w.heap.size, 8, none⟩ = some (.func (Fn.func 235) #[] #[]) :=
    World.rangeAt_setCells_same _ w.heap.size 0 opRow.toList HT.out 8 _ rfl
  have HB := hide (below_cells w.heap.size w.heap.size w (Nat.le_refl _) opRow.toList 0 _ ((Below.refl w.heap.size w).alloc (Nat.le_refl _) (.cells nilRow 248)))
  go_enter Tryz.func171, Tryz.ntmps171
  go_wp2_with ((with_reducible refine wpList_store_mid rfl 248 (Operand.tmp 3) (Operand.tmp 4) rfl w.heap.size 0 opRow ?_ ?_ ?_ ?_ ?_ ?_); rfl; rfl; exact HT.out; kernel_rfl; exact row_one; have hc' := hc; have HX := HB; generalize hW : (w.alloc (Obj.cells nilRow 248)).setCells w.heap.size 0 opRow.toList = W1 at hc' HX; (first | rw [show (w.alloc (Obj.cells #[.nilFunc, .nilFunc, .nilFunc, .nilFunc, .nilFunc, .nilFunc, .nilFunc, .nilFunc, .nilFunc, .nilFunc, .nilFunc, .nilFunc, .nilFunc, .nilFunc, .nilFunc, .nilFunc, .nilFunc, .nilFunc, .nilFunc, .nilFunc, .nilFunc, .nilFunc, .nilFunc, .nilFunc, .nilFunc, .nilFunc] 248)).setCells w.heap.size 0 opRow.toList = W1 from hW]); clear hW hc)
  go_ret
  exact ⟨rfl, HX.out⟩
set_option maxHeartbeats 1000000 in
theorem operationOf_9 (w : World) :
    Calls Tryz.prog 171 #[.int .i64 9] w fun e w' => e = .returned (.func (Fn.func 236) #[] #[]) ∧ Below w.heap.size w w' := by
  have HT := hide (there_row w 248)
  have hc : ((w.alloc (.cells nilRow 248)).setCells w.heap.size 0 opRow.toList).cell? ⟨w.heap.size, 9, none⟩ = some (.func (Fn.func 236) #[] #[]) :=
    World.rangeAt_setCells_same _ w.heap.size 0 opRow.toList HT.out 9 _ rfl
  have HB := hide (below_cells w.heap.size w.heap.size w (Nat.le_refl _) opRow.toList 0 _ ((Below.refl w.heap.size w).alloc (Nat.le_refl _) (.cells nilRow 248)))
  go_enter Tryz.func171, Tryz.ntmps171
  go_wp2_with ((with_reducible refine wpList_store_mid rfl 248 (Operand.tmp 3) (Operand.tmp 4) rfl w.heap.size 0 opRow ?_ ?_ ?_ ?_ ?_ ?_); rfl; rfl; exact HT.out; kernel_rfl; exact row_one; have hc' := hc; have HX := HB; generalize hW : (w.alloc (Obj.cells nilRow 248)).setCells w.heap.size 0 opRow.toList = W1 at hc' HX; (first | rw [show (w.alloc (Obj.cells #[.nilFunc, .nilFunc, .nilFunc, .nilFunc, .nilFunc, .nilFunc, .nilFunc, .nilFunc, .nilFunc, .nilFunc, .nilFunc, .nilFunc, .nilFunc, .nilFunc, .nilFunc, .nilFunc, .nilFunc, .nilFunc, .nilFunc, .nilFunc, .nilFunc, .nilFunc, .nilFunc, .nilFunc, .nilFunc, .nilFunc] 248)).setCells w.heap.size 0 opRow.toList = W1 from hW]); clear hW hc)
  go_ret
  exact ⟨rfl, HX.out⟩
set_option maxHeartbeats 1000000 in
theorem operationOf_10 (w : World) :
    Calls Tryz.prog 171 #[.int .i64 10] w fun e w' => e = .returned (.func (Fn.func 237) #[] #[]) ∧ Below w.heap.size w w' := by
  have HT := hide (there_row w 248)
  have hc : ((w.alloc (.cells nilRow 248)).setCells w.heap.size 0 opRow.toList).cell? ⟨w.heap.size, 10, none⟩ = some (.func (Fn.func 237) #[] #[]) :=
    World.rangeAt_setCells_same _ w.heap.size 0 opRow.toList HT.out 10 _ rfl
  have HB := hide (below_cells w.heap.size w.heap.size w (Nat.le_refl _) opRow.toList 0 _ ((Below.refl w.heap.size w).alloc (Nat.le_refl _) (.cells nilRow 248)))
  go_enter Tryz.func171, Tryz.ntmps171
  go_wp2_with ((with_reducible refine wpList_store_mid rfl 248 (Operand.tmp 3) (Operand.tmp 4) rfl w.heap.size 0 opRow ?_ ?_ ?_ ?_ ?_ ?_); rfl; rfl; exact HT.out; kernel_rfl; exact row_one; have hc' := hc; have HX := HB; generalize hW : (w.alloc (Obj.cells nilRow 248)).setCells w.heap.size 0 opRow.toList = W1 at hc' HX; (first | rw [show (w.alloc (Obj.cells #[.nilFunc, .nilFunc, .nilFunc, .nilFunc, .nilFunc, .nilFunc, .nilFunc, .nilFunc, .nilFunc, .nilFunc, .nilFunc, .nilFunc, .nilFunc, .nilFunc, .nilFunc, .nilFunc, .nilFunc, .nilFunc, .nilFunc, .nilFunc, .nilFunc, .nilFunc, .nilFunc, .nilFunc, .nilFunc, .nilFunc] 248)).setCells w.heap.size 0 opRow.toList = W1 from hW]); clear hW hc)
  go_ret
  exact ⟨rfl, HX.out⟩
set_option maxHeartbeats 1000000 in
theorem operationOf_11 (w : World) :
    Calls Tryz.prog 171 #[.int .i64 11] w fun e w' => e = .returned (.func (Fn.func 238) #[] #[]) ∧ Below w.heap.size w w' := by
  have HT := hide (there_row w 248)
  have hc : ((w.alloc (.cells nilRow 248)).setCells w.heap.size 0 opRow.toList).cell? ⟨w.heap.size, 11, none⟩ = some (.func (Fn.func 238) #[] #[]) :=
    World.rangeAt_setCells_same _ w.heap.size 0 opRow.toList HT.out 11 _ rfl
  have HB := hide (below_cells w.heap.size w.heap.size w (Nat.le_refl _) opRow.toList 0 _ ((Below.refl w.heap.size w).alloc (Nat.le_refl _) (.cells nilRow 248)))
  go_enter Tryz.func171, Tryz.ntmps171
  go_wp2_with ((with_reducible refine wpList_store_mid rfl 248 (Operand.tmp 3) (Operand.tmp 4) rfl w.heap.size 0 opRow ?_ ?_ ?_ ?_ ?_ ?_); rfl; rfl; exact HT.out; kernel_rfl; exact row_one; have hc' := hc; have HX := HB; generalize hW : (w.alloc (Obj.cells nilRow 248)).setCells w.heap.size 0 opRow.toList = W1 at hc' HX; (first | rw [show (w.alloc (Obj.cells #[.nilFunc, .nilFunc, .nilFunc, .nilFunc, .nilFunc, .nilFunc, .nilFunc, .nilFunc, .nilFunc, .nilFunc, .nilFunc, .nilFunc, .nilFunc, .nilFunc, .nilFunc, .nilFunc, .nilFunc, .nilFunc, .nilFunc, .nilFunc, .nilFunc, .nilFunc, .nilFunc, .nilFunc, .nilFunc, .nilFunc] 248)).setCells w.heap.size 0 opRow.toList = W1 from hW]); clear hW hc)
  go_ret
  exact ⟨rfl, HX.out⟩
set_option maxHeartbeats 1000000 in
theorem operationOf_12 (w : World) :
    Calls Tryz.prog 171 #[.int .i64 12] w fun e w' => e = .returned (.func (Fn.func 239) #[] #[]) ∧ Below w.heap.size w w' := by
  have HT := hide (there_row w 248)
  have hc : ((w.alloc (.cells nilRow 248)).setCells w.heap.size 0 opRow.toList).cell? ⟨w.heap.size, 12, none⟩ = some (.func (Fn.func 239) #[] #[]) :=
    World.rangeAt_setCells_same _ w.heap.size 0 opRow.toList HT.out 12 _ rfl
  have HB := hide (below_cells w.heap.size w.heap.size w (Nat.le_refl _) opRow.toList 0 _ ((Below.refl w.heap.size w).alloc (Nat.le_refl _) (.cells nilRow 248)))
  go_enter Tryz.func171, Tryz.ntmps171
  go_wp2_with ((with_reducible refine wpList_store_mid rfl 248 (Operand.tmp 3) (Operand.tmp 4) rfl w.heap.size 0 opRow ?_ ?_ ?_ ?_ ?_ ?_); rfl; rfl; exact HT.out; kernel_rfl; exact row_one; have hc' := hc; have HX := HB; generalize hW : (w.alloc (Obj.cells nilRow 248)).setCells w.heap.size 0 opRow.toList = W1 at hc' HX; (first | rw [show (w.alloc (Obj.cells #[.nilFunc, .nilFunc, .nilFunc, .nilFunc, .nilFunc, .nilFunc, .nilFunc, .nilFunc, .nilFunc, .nilFunc, .nilFunc, .nilFunc, .nilFunc, .nilFunc, .nilFunc, .nilFunc, .nilFunc, .nilFunc, .nilFunc, .nilFunc, .nilFunc, .nilFunc, .nilFunc, .nilFunc, .nilFunc, .nilFunc] 248)).setCells w.heap.size 0 opRow.toList = W1 from hW]); clear hW hc)
  go_ret
  exact ⟨rfl, HX.out⟩
set_option maxHeartbeats 1000000 in
theorem operationOf_13 (w : World) :
    Calls Tryz.prog 171 #[.int .i64 13] w fun e w' => e = .returned (.func (Fn.func 240) #[] #[]) ∧ Below w.heap.size w w' := by
  have HT := hide (there_row w 248)
  have hc : ((w.alloc (.cells nilRow 248)).setCells w.heap.size 0 opRow.toList).cell? ⟨w.heap.size, 13, none⟩ = some (.func (Fn.func 240) #[] #[]) :=
    World.rangeAt_setCells_same _ w.heap.size 0 opRow.toList HT.out 13 _ rfl
  have HB := hide (below_cells w.heap.size w.heap.size w (Nat.le_refl _) opRow.toList 0 _ ((Below.refl w.heap.size w).alloc (Nat.le_refl _) (.cells nilRow 248)))
  go_enter Tryz.func171, Tryz.ntmps171
  go_wp2_with ((with_reducible refine wpList_store_mid rfl 248 (Operand.tmp 3) (Operand.tmp 4) rfl w.heap.size 0 opRow ?_ ?_ ?_ ?_ ?_ ?_); rfl; rfl; exact HT.out; kernel_rfl; exact row_one; have hc' := hc; have HX := HB; generalize hW : (w.alloc (Obj.cells nilRow 248)).setCells w.heap.size 0 opRow.toList = W1 at hc' HX; (first | rw [show (w.alloc (Obj.cells #[.nilFunc, .nilFunc, .nilFunc, .nilFunc, .nilFunc, .nilFunc, .nilFunc, .nilFunc, .nilFunc, .nilFunc, .nilFunc, .nilFunc, .nilFunc, .nilFunc, .nilFunc, .nilFunc, .nilFunc, .nilFunc, .nilFunc, .nilFunc, .nilFunc, .nilFunc, .nilFunc, .nilFunc, .nilFunc, .nilFunc] 248)).setCells w.heap.size 0 opRow.toList = W1 from hW]); clear hW hc)
  go_ret
  exact ⟨rfl, HX.out⟩
set_option maxHeartbeats 1000000 in
theorem operationOf_14 (w : World) :
    Calls Tryz.prog 171 #[.int .i64 14] w fun e w' => e = .returned (.func (Fn.func 241) #[] #[]) ∧ Below w.heap.size w w' := by
  have HT := hide (there_row w 248)
  have hc : ((w.alloc (.cells nilRow 248)).setCells w.heap.size 0 opRow.toList).cell? ⟨w.heap.size, 14, none⟩ = some (.func (Fn.func 241) #[] #[]) :=
    World.rangeAt_setCells_same _ w.heap.size 0 opRow.toList HT.out 14 _ rfl
  have HB := hide (below_cells w.heap.size w.heap.size w (Nat.le_refl _) opRow.toList 0 _ ((Below.refl w.heap.size w).alloc (Nat.le_refl _) (.cells nilRow 248)))
  go_enter Tryz.func171, Tryz.ntmps171
  go_wp2_with ((with_reducible refine wpList_store_mid rfl 248 (Operand.tmp 3) (Operand.tmp 4) rfl w.heap.size 0 opRow ?_ ?_ ?_ ?_ ?_ ?_); rfl; rfl; exact HT.out; kernel_rfl; exact row_one; have hc' := hc; have HX := HB; generalize hW : (w.alloc (Obj.cells nilRow 248)).setCells w.heap.size 0 opRow.toList = W1 at hc' HX; (first | rw [show (w.alloc (Obj.cells #[.nilFunc, .nilFunc, .nilFunc, .nilFunc, .nilFunc, .nilFunc, .nilFunc, .nilFunc, .nilFunc, .nilFunc, .nilFunc, .nilFunc, .nilFunc, .nilFunc, .nilFunc, .nilFunc, .nilFunc, .nilFunc, .nilFunc, .nilFunc, .nilFunc, .nilFunc, .nilFunc, .nilFunc, .nilFunc, .nilFunc] 248)).setCells w.heap.size 0 opRow.toList = W1 from hW]); clear hW hc)
  go_ret
  exact ⟨rfl, HX.out⟩
set_option maxHeartbeats 1000000 in
theorem operationOf_15 (w : World) :
    Calls Tryz.prog 171 #[.int .i64 15] w fun e w' => e = .returned (.func (Fn.func 243) #[] #[]) ∧ Below w.heap.size w w' := by
  have HT := hide (there_row w 248)
  have hc : ((w.alloc (.cells nilRow 248)).setCells w.heap.size 0 opRow.toList).cell? ⟨w.heap.size, 15, none⟩ = some (.func (Fn.func 243) #[] #[]) :=
    World.rangeAt_setCells_same _ w.heap.size 0 opRow.toList HT.out 15 _ rfl
  have HB := hide (below_cells w.heap.size w.heap.size w (Nat.le_refl _) opRow.toList 0 _ ((Below.refl w.heap.size w).alloc (Nat.le_refl _) (.cells nilRow 248)))
  go_enter Tryz.func171, Tryz.ntmps171
  go_wp2_with ((with_reducible refine wpList_store_mid rfl 248 (Operand.tmp 3) (Operand.tmp 4) rfl w.heap.size 0 opRow ?_ ?_ ?_ ?_ ?_ ?_); rfl; rfl; exact HT.out; kernel_rfl; exact row_one; have hc' := hc; have HX := HB; generalize hW : (w.alloc (Obj.cells nilRow 248)).setCells w.heap.size 0 opRow.toList = W1 at hc' HX; (first | rw [show (w.alloc (Obj.cells #[.nilFunc, .nilFunc, .nilFunc, .nilFunc, .nilFunc, .nilFunc, .nilFunc, .nilFunc, .nilFunc, .nilFunc, .nilFunc, .nilFunc, .nilFunc, .nilFunc, .nilFunc, .nilFunc, .nilFunc, .nilFunc, .nilFunc, .nilFunc, .nilFunc, .nilFunc, .nilFunc, .nilFunc, .nilFunc, .nilFunc] 248)).setCells w.heap.size 0 opRow.toList = W1 from hW]); clear hW hc)
  go_ret
  exact ⟨rfl, HX.out⟩
set_option maxHeartbeats 1000000 in
theorem operationOf_16 (w : World) :
    Calls Tryz.prog 171 #[.int .i64 16] w fun e w' => e = .returned (.func (Fn.func 244) #[] #[]) ∧ Below w.heap.size w w' := by
  have HT := hide (there_row w 248)
  have hc : ((w.alloc (.cells nilRow 248)).setCells w.heap.size 0 opRow.toList).cell? ⟨w.heap.size, 16, none⟩ = some (.func (Fn.func 244) #[] #[]) :=
    World.rangeAt_setCells_same _ w.heap.size 0 opRow.toList HT.out 16 _ rfl
  have HB := hide (below_cells w.heap.size w.heap.size w (Nat.le_refl _) opRow.toList 0 _ ((Below.refl w.heap.size w).alloc (Nat.le_refl _) (.cells nilRow 248)))
  go_enter Tryz.func171, Tryz.ntmps171
  go_wp2_with ((with_reducible refine wpList_store_mid rfl 248 (Operand.tmp 3) (Operand.tmp 4) rfl w.heap.size 0 opRow ?_ ?_ ?_ ?_ ?_ ?_); rfl; rfl; exact HT.out; kernel_rfl; exact row_one; have hc' := hc; have HX := HB; generalize hW : (w.alloc (Obj.cells nilRow 248)).setCells w.heap.size 0 opRow.toList = W1 at hc' HX; (first | rw [show (w.alloc (Obj.cells #[.nilFunc, .nilFunc, .nilFunc, .nilFunc, .nilFunc, .nilFunc, .nilFunc, .nilFunc, .nilFunc, .nilFunc, .nilFunc, .nilFunc, .nilFunc, .nilFunc, .nilFunc, .nilFunc, .nilFunc, .nilFunc, .nilFunc, .nilFunc, .nilFunc, .nilFunc, .nilFunc, .nilFunc, .nilFunc, .nilFunc] 248)).setCells w.heap.size 0 opRow.toList = W1 from hW]); clear hW hc)
  go_ret
  exact ⟨rfl, HX.out⟩
set_option maxHeartbeats 1000000 in
theorem operationOf_17 (w : World) :
    Calls Tryz.prog 171 #[.int .i64 17] w fun e w' => e = .returned (.func (Fn.func 245) #[] #[]) ∧ Below w.heap.size w w' := by
  have HT := hide (there_row w 248)
  have hc : ((w.alloc (.cells nilRow 248)).setCells w.heap.size 0 opRow.toList).cell? ⟨w.heap.size, 17, none⟩ = some (.func (Fn.func 245) #[] #[]) :=
    World.rangeAt_setCells_same _ w.heap.size 0 opRow.toList HT.out 17 _ rfl
  have HB := hide (below_cells w.heap.size w.heap.size w (Nat.le_refl _) opRow.toList 0 _ ((Below.refl w.heap.size w).alloc (Nat.le_refl _) (.cells nilRow 248)))
  go_enter Tryz.func171, Tryz.ntmps171
  go_wp2_with ((with_reducible refine wpList_store_mid rfl 248 (Operand.tmp 3) (Operand.tmp 4) rfl w.heap.size 0 opRow ?_ ?_ ?_ ?_ ?_ ?_); rfl; rfl; exact HT.out; kernel_rfl; exact row_one; have hc' := hc; have HX := HB; generalize hW : (w.alloc (Obj.cells nilRow 248)).setCells w.heap.size 0 opRow.toList = W1 at hc' HX; (first | rw [show (w.alloc (Obj.cells #[.nilFunc, .nilFunc, .nilFunc, .nilFunc, .nilFunc, .nilFunc, .nilFunc, .nilFunc, .nilFunc, .nilFunc, .nilFunc, .nilFunc, .nilFunc, .nilFunc, .nilFunc, .nilFunc, .nilFunc, .nilFunc, .nilFunc, .nilFunc, .nilFunc, .nilFunc, .nilFunc, .nilFunc, .nilFunc, .nilFunc] 248)).setCells w.heap.size 0 opRow.toList = W1 from hW]); clear hW hc)
  go_ret
  exact ⟨rfl, HX.out⟩
set_option maxHeartbeats 1000000 in
theorem operationOf_18 (w : World) :
    Calls Tryz.prog 171 #[.int .i64 18] w fun e w' => e = .returned (.func (Fn.func 247) #[] #[]) ∧ Below w.heap.size w w' := by
  have HT := hide (there_row w 248)
  have hc : ((w.alloc (.cells nilRow 248)).setCells w.heap.size 0 opRow.toList).cell? ⟨w.heap.size, 18, none⟩ = some (.func (Fn.func 247) #[] #[]) :=
    World.rangeAt_setCells_same _ w.heap.size 0 opRow.toList HT.out 18 _ rfl
  have HB := hide (below_cells w.heap.size w.heap.size w (Nat.le_refl _) opRow.toList 0 _ ((Below.refl w.heap.size w).alloc (Nat.le_refl _) (.cells nilRow 248)))
  go_enter Tryz.func171, Tryz.ntmps171
  go_wp2_with ((with_reducible refine wpList_store_mid rfl 248 (Operand.tmp 3) (Operand.tmp 4) rfl w.heap.size 0 opRow ?_ ?_ ?_ ?_ ?_ ?_); rfl; rfl; exact HT.out; kernel_rfl; exact row_one; have hc' := hc; have HX := HB; generalize hW : (w.alloc (Obj.cells nilRow 248)).setCells w.heap.size 0 opRow.toList = W1 at hc' HX; (first | rw [show (w.alloc (Obj.cells #[.nilFunc, .nilFunc, .nilFunc, .nilFunc, .nilFunc, .nilFunc, .nilFunc, .nilFunc, .nilFunc, .nilFunc, .nilFunc, .nilFunc, .nilFunc, .nilFunc, .nilFunc, .nilFunc, .nilFunc, .nilFunc, .nilFunc, .nilFunc, .nilFunc, .nilFunc, .nilFunc, .nilFunc, .nilFunc, .nilFunc] 248)).setCells w.heap.size 0 opRow.toList = W1 from hW]); clear hW hc)
  go_ret
  exact ⟨rfl, HX.out⟩
set_option maxHeartbeats 1000000 in
theorem operationOf_19 (w : World) :
    Calls Tryz.prog 171 #[.int .i64 19] w fun e w' => e = .returned (.func (Fn.func 248) #[] #[]) ∧ Below w.heap.size w w' := by
  have HT := hide (there_row w 248)
  have hc : ((w.alloc (.cells nilRow 248)).setCells w.heap.size 0 opRow.toList).cell? ⟨w.heap.size, 19, none⟩ = some (.func (Fn.func 248) #[] #[]) :=
    World.rangeAt_setCells_same _ w.heap.size 0 opRow.toList HT.out 19 _ rfl
  have HB := hide (below_cells w.heap.size w.heap.size w (Nat.le_refl _) opRow.toList 0 _ ((Below.refl w.heap.size w).alloc (Nat.le_refl _) (.cells nilRow 248)))
  go_enter Tryz.func171, Tryz.ntmps171
  go_wp2_with ((with_reducible refine wpList_store_mid rfl 248 (Operand.tmp 3) (Operand.tmp 4) rfl w.heap.size 0 opRow ?_ ?_ ?_ ?_ ?_ ?_); rfl; rfl; exact HT.out; kernel_rfl; exact row_one; have hc' := hc; have HX := HB; generalize hW : (w.alloc (Obj.cells nilRow 248)).setCells w.heap.size 0 opRow.toList = W1 at hc' HX; (first | rw [show (w.alloc (Obj.cells #[.nilFunc, .nilFunc, .nilFunc, .nilFunc, .nilFunc, .nilFunc, .nilFunc, .nilFunc, .nilFunc, .nilFunc, .nilFunc, .nilFunc, .nilFunc, .nilFunc, .nilFunc, .nilFunc, .nilFunc, .nilFunc, .nilFunc, .nilFunc, .nilFunc, .nilFunc, .nilFunc, .nilFunc, .nilFunc, .nilFunc] 248)).setCells w.heap.size 0 opRow.toList = W1 from hW]); clear hW hc)
  go_ret
  exact ⟨rfl, HX.out⟩
set_option maxHeartbeats 1000000 in
theorem operationOf_20 (w : World) :
    Calls Tryz.prog 171 #[.int .i64 20] w fun e w' => e = .returned (.func (Fn.func 249) #[] #[]) ∧ Below w.heap.size w w' := by
  have HT := hide (there_row w 248)
  have hc : ((w.alloc (.cells nilRow 248)).setCells w.heap.size 0 opRow.toList).cell? ⟨w.heap.size, 20, none⟩ = some (.func (Fn.func 249) #[] #[]) :=
    World.rangeAt_setCells_same _ w.heap.size 0 opRow.toList HT.out 20 _ rfl
  have HB := hide (below_cells w.heap.size w.heap.size w (Nat.le_refl _) opRow.toList 0 _ ((Below.refl w.heap.size w).alloc (Nat.le_refl _) (.cells nilRow 248)))
  go_enter Tryz.func171, Tryz.ntmps171
  go_wp2_with ((with_reducible refine wpList_store_mid rfl 248 (Operand.tmp 3) (Operand.tmp 4) rfl w.heap.size 0 opRow ?_ ?_ ?_ ?_ ?_ ?_); rfl; rfl; exact HT.out; kernel_rfl; exact row_one; have hc' := hc; have HX := HB; generalize hW : (w.alloc (Obj.cells nilRow 248)).setCells w.heap.size 0 opRow.toList = W1 at hc' HX; (first | rw [show (w.alloc (Obj.cells #[.nilFunc, .nilFunc, .nilFunc, .nilFunc, .nilFunc, .nilFunc, .nilFunc, .nilFunc, .nilFunc, .nilFunc, .nilFunc, .nilFunc, .nilFunc, .nilFunc, .nilFunc, .nilFunc, .nilFunc, .nilFunc, .nilFunc, .nilFunc, .nilFunc, .nilFunc, .nilFunc, .nilFunc, .nilFunc, .nilFunc] 248)).setCells w.heap.size 0 opRow.toList = W1 from hW]); clear hW hc)
  go_ret
  exact ⟨rfl, HX.out⟩
set_option maxHeartbeats 1000000 in
theorem operationOf_21 (w : World) :
    Calls Tryz.prog 171 #[.int .i64 21] w fun e w' => e = .returned (.func (Fn.func 251) #[] #[]) ∧ Below w.heap.size w w' := by
  have HT := hide (there_row w 248)
  have hc : ((w.alloc (.cells nilRow 248)).setCells w.heap.size 0 opRow.toList).cell? ⟨w.heap.size, 21, none⟩ = some (.func (Fn.func 251) #[] #[]) :=
    World.rangeAt_setCells_same _ w.heap.size 0 opRow.toList HT.out 21 _ rfl
  have HB := hide (below_cells w.heap.size w.heap.size w (Nat.le_refl _) opRow.toList 0 _ ((Below.refl w.heap.size w).alloc (Nat.le_refl _) (.cells nilRow 248)))
  go_enter Tryz.func171, Tryz.ntmps171
  go_wp2_with ((with_reducible refine wpList_store_mid rfl 248 (Operand.tmp 3) (Operand.tmp 4) rfl w.heap.size 0 opRow ?_ ?_ ?_ ?_ ?_ ?_); rfl; rfl; exact HT.out; kernel_rfl; exact row_one; have hc' := hc; have HX := HB; generalize hW : (w.alloc (Obj.cells nilRow 248)).setCells w.heap.size 0 opRow.toList = W1 at hc' HX; (first | rw [show (w.alloc (Obj.cells #[.nilFunc, .nilFunc, .nilFunc, .nilFunc, .nilFunc, .nilFunc, .nilFunc, .nilFunc, .nilFunc, .nilFunc, .nilFunc, .nilFunc, .nilFunc, .nilFunc, .nilFunc, .nilFunc, .nilFunc, .nilFunc, .nilFunc, .nilFunc, .nilFunc, .nilFunc, .nilFunc, .nilFunc, .nilFunc, .nilFunc] 248)).setCells w.heap.size 0 opRow.toList = W1 from hW]); clear hW hc)
  go_ret
  exact ⟨rfl, HX.out⟩
set_option maxHeartbeats 1000000 in
theorem operationOf_22 (w : World) :
    Calls Tryz.prog 171 #[.int .i64 22] w fun e w' => e = .returned (.func (Fn.func 252) #[] #[]) ∧ Below w.heap.size w w' := by
  have HT := hide (there_row w 248)
  have hc : ((w.alloc (.cells nilRow 248)).setCells w.heap.size 0 opRow.toList).cell? ⟨w.heap.size, 22, none⟩ = some (.func (Fn.func 252) #[] #[]) :=
    World.rangeAt_setCells_same _ w.heap.size 0 opRow.toList HT.out 22 _ rfl
  have HB := hide (below_cells w.heap.size w.heap.size w (Nat.le_refl _) opRow.toList 0 _ ((Below.refl w.heap.size w).alloc (Nat.le_refl _) (.cells nilRow 248)))
  go_enter Tryz.func171, Tryz.ntmps171
  go_wp2_with ((with_reducible refine wpList_store_mid rfl 248 (Operand.tmp 3) (Operand.tmp 4) rfl w.heap.size 0 opRow ?_ ?_ ?_ ?_ ?_ ?_); rfl; rfl; exact HT.out; kernel_rfl; exact row_one; have hc' := hc; have HX := HB; generalize hW : (w.alloc (Obj.cells nilRow 248)).setCells w.heap.size 0 opRow.toList = W1 at hc' HX; (first | rw [show (w.alloc (Obj.cells #[.nilFunc, .nilFunc, .nilFunc, .nilFunc, .nilFunc, .nilFunc, .nilFunc, .nilFunc, .nilFunc, .nilFunc, .nilFunc, .nilFunc, .nilFunc, .nilFunc, .nilFunc, .nilFunc, .nilFunc, .nilFunc, .nilFunc, .nilFunc, .nilFunc, .nilFunc, .nilFunc, .nilFunc, .nilFunc, .nilFunc] 248)).setCells w.heap.size 0 opRow.toList = W1 from hW]); clear hW hc)
  go_ret
  exact ⟨rfl, HX.out⟩
set_option maxHeartbeats 1000000 in
theorem operationOf_23 (w : World) :
    Calls Tryz.prog 171 #[.int .i64 23] w fun e w' => e = .returned (.func (Fn.func 253) #[] #[]) ∧ Below w.heap.size w w' := by
  have HT := hide (there_row w 248)
  have hc : ((w.alloc (.cells nilRow 248)).setCells w.heap.size 0 opRow.toList).cell? ⟨w.heap.size, 23, none⟩ = some (.func (Fn.func 253) #[] #[]) :=
    World.rangeAt_setCells_same _ w.heap.size 0 opRow.toList HT.out 23 _ rfl
  have HB := hide (below_cells w.heap.size w.heap.size w (Nat.le_refl _) opRow.toList 0 _ ((Below.refl w.heap.size w).alloc (Nat.le_refl _) (.cells nilRow 248)))
  go_enter Tryz.func171, Tryz.ntmps171
  go_wp2_with ((with_reducible refine wpList_store_mid rfl 248 (Operand.tmp 3) (Operand.tmp 4) rfl w.heap.size 0 opRow ?_ ?_ ?_ ?_ ?_ ?_); rfl; rfl; exact HT.out; kernel_rfl; exact row_one; have hc' := hc; have HX := HB; generalize hW : (w.alloc (Obj.cells nilRow 248)).setCells w.heap.size 0 opRow.toList = W1 at hc' HX; (first | rw [show (w.alloc (Obj.cells #[.nilFunc, .nilFunc, .nilFunc, .nilFunc, .nilFunc, .nilFunc, .nilFunc, .nilFunc, .nilFunc, .nilFunc, .nilFunc, .nilFunc, .nilFunc, .nilFunc, .nilFunc, .nilFunc, .nilFunc, .nilFunc, .nilFunc, .nilFunc, .nilFunc, .nilFunc, .nilFunc, .nilFunc, .nilFunc, .nilFunc] 248)).setCells w.heap.size 0 opRow.toList = W1 from hW]); clear hW hc)
  go_ret
  exact ⟨rfl, HX.out⟩
set_option maxHeartbeats 1000000 in
theorem operationOf_24 (w : World) :
    Calls Tryz.prog 171 #[.int .i64 24] w fun e w' => e = .returned (.func (Fn.func 255) #[] #[]) ∧ Below w.heap.size w w' := by
  have HT := hide (there_row w 248)
  have hc : ((w.alloc (.cells nilRow 248)).setCells w.heap.size 0 opRow.toList).cell? ⟨w.heap.size, 24, none⟩ = some (.func (Fn.func 255) #[] #[]) :=
    World.rangeAt_setCells_same _ w.heap.size 0 opRow.toList HT.out 24 _ rfl
  have HB := hide (below_cells w.heap.size w.heap.size w (Nat.le_refl _) opRow.toList 0 _ ((Below.refl w.heap.size w).alloc (Nat.le_refl _) (.cells nilRow 248)))
  go_enter Tryz.func171, Tryz.ntmps171
  go_wp2_with ((with_reducible refine wpList_store_mid rfl 248 (Operand.tmp 3) (Operand.tmp 4) rfl w.heap.size 0 opRow ?_ ?_ ?_ ?_ ?_ ?_); rfl; rfl; exact HT.out; kernel_rfl; exact row_one; have hc' := hc; have HX := HB; generalize hW : (w.alloc (Obj.cells nilRow 248)).setCells w.heap.size 0 opRow.toList = W1 at hc' HX; (first | rw [show (w.alloc (Obj.cells #[.nilFunc, .nilFunc, .nilFunc, .nilFunc, .nilFunc, .nilFunc, .nilFunc, .nilFunc, .nilFunc, .nilFunc, .nilFunc, .nilFunc, .nilFunc, .nilFunc, .nilFunc, .nilFunc, .nilFunc, .nilFunc, .nilFunc, .nilFunc, .nilFunc, .nilFunc, .nilFunc, .nilFunc, .nilFunc, .nilFunc] 248)).setCells w.heap.size 0 opRow.toList = W1 from hW]); clear hW hc)
  go_ret
  exact ⟨rfl, HX.out⟩
set_option maxHeartbeats 1000000 in
theorem operationOf_25 (w : World) :
    Calls Tryz.prog 171 #[.int .i64 25] w fun e w' => e = .returned (.func (Fn.func 256) #[] #[]) ∧ Below w.heap.size w w' := by
  have HT := hide (there_row w 248)
  have hc : ((w.alloc (.cells nilRow 248)).setCells w.heap.size 0 opRow.toList).cell? ⟨w.heap.size, 25, none⟩ = some (.func (Fn.func 256) #[] #[]) :=
    World.rangeAt_setCells_same _ w.heap.size 0 opRow.toList HT.out 25 _ rfl
  have HB := hide (below_cells w.heap.size w.heap.size w (Nat.le_refl _) opRow.toList 0 _ ((Below.refl w.heap.size w).alloc (Nat.le_refl _) (.cells nilRow 248)))
  go_enter Tryz.func171, Tryz.ntmps171
  go_wp2_with ((with_reducible refine wpList_store_mid rfl 248 (Operand.tmp 3) (Operand.tmp 4) rfl w.heap.size 0 opRow ?_ ?_ ?_ ?_ ?_ ?_); rfl; rfl; exact HT.out; kernel_rfl; exact row_one; have hc' := hc; have HX := HB; generalize hW : (w.alloc (Obj.cells nilRow 248)).setCells w.heap.size 0 opRow.toList = W1 at hc' HX; (first | rw [show (w.alloc (Obj.cells #[.nilFunc, .nilFunc, .nilFunc, .nilFunc, .nilFunc, .nilFunc, .nilFunc, .nilFunc, .nilFunc, .nilFunc, .nilFunc, .nilFunc, .nilFunc, .nilFunc, .nilFunc, .nilFunc, .nilFunc, .nilFunc, .nilFunc, .nilFunc, .nilFunc, .nilFunc, .nilFunc, .nilFunc, .nilFunc, .nilFunc] 248)).setCells w.heap.size 0 opRow.toList = W1 from hW]); clear hW hc)
  go_ret
  exact ⟨rfl, HX.out⟩
end Go.Proofs.YtngdgogjlpjjpadGreat
