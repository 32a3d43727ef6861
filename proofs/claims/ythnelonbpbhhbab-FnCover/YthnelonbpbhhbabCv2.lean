import Derived.Test.YthnelonbpbhhbabCv1
import Derived.Test.YthnelonbpbhhbabTurn
import Derived.Laws.EntriesVeiled
namespace Go.Proofs.Ythnelonbpbhhbab
open Go.RowKit
set_option linter.unusedVariables false

/-- THE BEST REGION SO FAR, at block B. -/
def Bst (w : World) (B : Nat) (fd : Bool) (b l o : Int) : Prop :=
  Blk w B #[.func (Fn.func 74) #[] #[], .bool fd, .int .i64 b, .int .i64 l, .int .i64 o, .bool false, .bool false, .bool false] 96
theorem Bst.cells {w : World} {B : Nat} {fd : Bool} {b l o : Int} (h : Bst w B fd b l o) :
    w.cell? ⟨B, 0, none⟩ = some (.func (Fn.func 74) #[] #[]) ∧ w.cell? ⟨B, 1, none⟩ = some (.bool fd) ∧ w.cell? ⟨B, 2, none⟩ = some (.int .i64 b) ∧ w.cell? ⟨B, 3, none⟩ = some (.int .i64 l) ∧ w.cell? ⟨B, 4, none⟩ = some (.int .i64 o) ∧ w.cell? ⟨B, 5, none⟩ = some (.bool false) ∧ w.cell? ⟨B, 6, none⟩ = some (.bool false) ∧ w.cell? ⟨B, 7, none⟩ = some (.bool false) ∧ ∀ i, w.frozen? ⟨B, i, none⟩ = false :=
  ⟨by rw [Blk.cell h]; rfl, by rw [Blk.cell h]; rfl, by rw [Blk.cell h]; rfl, by rw [Blk.cell h]; rfl, by rw [Blk.cell h]; rfl, by rw [Blk.cell h]; rfl, by rw [Blk.cell h]; rfl, by rw [Blk.cell h]; rfl, fun i => Blk.frozen h i⟩

theorem turn_drew {S : Nat → Prop} {a W : World} (h : Turn S a W) (n : Nat) : Turn S a (W.drewN n) := ⟨h.os, h.tape, h.output, h.size, h.block⟩
def taken (W : World) (B : Nat) (b l o : Int) : World :=
  ((((((W.setCell ⟨B, 1, none⟩ (.bool true)).setCell ⟨B, 2, none⟩ (.int .i64 b)).setCell ⟨B, 3, none⟩ (.int .i64 l)).setCell ⟨B, 4, none⟩ (.int .i64 o)).setCell ⟨B, 5, none⟩ (.bool false)).setCell ⟨B, 6, none⟩ (.bool false)).setCell ⟨B, 7, none⟩ (.bool false)
theorem taken_bst {W : World} {B : Nat} {fd : Bool} {b' l' o' : Int} (h : Bst W B fd b' l' o') (b l o : Int) : Bst (taken W B b l o) B true b l o := by
  have := ((((((Blk.set h 1 (.bool true)).set 2 (.int .i64 b)).set 3 (.int .i64 l)).set 4 (.int .i64 o)).set 5 (.bool false)).set 6 (.bool false)).set 7 (.bool false)
  unfold Bst taken
  simpa using this
theorem taken_turn (W : World) (B : Nat) (b l o : Int) : Turn (fun j => j = B) W (taken W B b l o) := by
  have T : ∀ (X : World) (i : Nat) (v : Value), Turn (fun j => j = B) X (X.setCell ⟨B, i, none⟩ v) := fun X i v => ⟨rfl, rfl, rfl, by rw [size_setCell]; exact Nat.le_refl _, fun j hj hn => heap_setCell_other _ _ _ _ hn⟩
  unfold taken
  exact ((((((T _ _ _).trans (T _ _ _)).trans (T _ _ _)).trans (T _ _ _)).trans (T _ _ _)).trans (T _ _ _)).trans (T _ _ _)

set_option maxHeartbeats 2000000 in
theorem offer_new (B : Nat) (b l o b' l' o' : Int) (w : World) (h : Bst w B false b' l' o') :
    Calls Try.prog 92 #[.pointer (some ⟨B, 0, none⟩), .agg #[.int .i64 b, .int .i64 l, .int .i64 o, .bool false, .bool false, .bool false]] w fun e w' => e = .returned (.tuple #[]) ∧ Bst w' B true b l o ∧ Turn (fun j => j = B) w w' := by
  have hlt := Blk.lt h
  obtain ⟨q1, q2, q3, q4, q5, q6, q7, q8, q9⟩ := h.cells
  have HF := hide (show Bst (w.alloc (.cells #[.int .i64 b, .int .i64 l, .int .i64 o, .bool false, .bool false, .bool false] 30)) B false b' l' o' from Blk.alloc h _)
  have HT := hide (turn_alloc (S := fun j => j = B) w (.cells #[.int .i64 b, .int .i64 l, .int .i64 o, .bool false, .bool false, .bool false] 30))
  clear h
  go_enter Try.func92, Try.ntmps92
  go_wp2
  go_quiet (fail)
  go_wp2
  go_end0
  exact ⟨rfl, taken_bst (W := (w.alloc (.cells #[.int .i64 b, .int .i64 l, .int .i64 o, .bool false, .bool false, .bool false] 30)).drewN _) HF.out b l o, (turn_drew HT.out _).trans (taken_turn _ B b l o)⟩

def bstIf (w : World) (B : Nat) (t : Bool) (b l o b' l' o' : Int) : Prop := Bst w B true (if t then b else b') (if t then l else l') (if t then o else o')

set_option maxHeartbeats 4000000 in
theorem offer_cmp (B : Nat) (b l b' l' : Int) (q q' : Nat) (w : World) (h : Bst w B true b' l' (255 - (q' : Int))) (hq : q < 256) (hq' : q' < 256) (hl : 5 ≤ l) (hl2 : l ≤ 14) (hl' : 5 ≤ l') (hl2' : l' ≤ 14) :
    Calls Try.prog 92 #[.pointer (some ⟨B, 0, none⟩), .agg #[.int .i64 b, .int .i64 l, .int .i64 (255 - (q : Int)), .bool false, .bool false, .bool false]] w fun e w' => e = .returned (.tuple #[]) ∧ bstIf w' B (cm l q l' q') b l (255 - (q : Int)) b' l' (255 - (q' : Int)) ∧ Turn (fun j => j = B) w w' := by
  have hlt := Blk.lt h
  have C1 := hide (coversMore_any b l b' l' q q')
  have kb := Blk.new w #[.int .i64 b, .int .i64 l, .int .i64 (255 - (q : Int)), .bool false, .bool false, .bool false] 30
  have hb : Bst (w.alloc (.cells #[.int .i64 b, .int .i64 l, .int .i64 (255 - (q : Int)), .bool false, .bool false, .bool false] 30)) B true b' l' (255 - (q' : Int)) := Blk.alloc h _
  have HT := hide (turn_alloc (S := fun j => j = B) w (.cells #[.int .i64 b, .int .i64 l, .int .i64 (255 - (q : Int)), .bool false, .bool false, .bool false] 30))
  obtain ⟨o, ho⟩ : ∃ o, o = 255 - (q : Int) := ⟨_, rfl⟩
  obtain ⟨o', ho'⟩ : ∃ o', o' = 255 - (q' : Int) := ⟨_, rfl⟩
  rw [← ho] at C1 kb hb HT ⊢
  rw [← ho'] at C1 hb ⊢
  clear ho ho' h
  obtain ⟨q1, q2, q3, q4, q5, q6, q7, q8, q9⟩ := hb.cells
  generalize cm l q l' q' = t at *
  go_enter Try.func92, Try.ntmps92
  go_wp2
  go_region_held3 (fun w' => w'.cell? ⟨w.heap.size, 0, none⟩ = some (.int .i64 b) ∧ w'.cell? ⟨w.heap.size, 1, none⟩ = some (.int .i64 l) ∧ w'.cell? ⟨w.heap.size, 2, none⟩ = some (.int .i64 o) ∧ w'.cell? ⟨w.heap.size, 3, none⟩ = some (.bool false) ∧ w'.cell? ⟨w.heap.size, 4, none⟩ = some (.bool false) ∧ w'.cell? ⟨w.heap.size, 5, none⟩ = some (.bool false) ∧ w'.cell? ⟨B, 0, none⟩ = some (.func (Fn.func 74) #[] #[]) ∧ w'.cell? ⟨B, 1, none⟩ = some (.bool true) ∧ w'.cell? ⟨B, 2, none⟩ = some (.int .i64 b') ∧ w'.cell? ⟨B, 3, none⟩ = some (.int .i64 l') ∧ w'.cell? ⟨B, 4, none⟩ = some (.int .i64 o') ∧ w'.cell? ⟨B, 5, none⟩ = some (.bool false) ∧ w'.cell? ⟨B, 6, none⟩ = some (.bool false) ∧ w'.cell? ⟨B, 7, none⟩ = some (.bool false)) (go_keep)
    (first
      | (go_at_call 74; refine (C1.out _ hq hq' hl hl2 hl' hl2').mono ?_; rintro e w1 ⟨rfl, hb1⟩; replace hb1 := undrew hb1; obtain ⟨p1, p2, p3, p4, p5, p6, p7⟩ := (kb.below hb1).six'; obtain ⟨q1, q2, q3, q4, q5, q6, q7, q8, q9⟩ := Bst.cells (show Bst w1 B true b' l' o' from Blk.below hb hb1)))
  have hb' : Bst w1 B true b' l' o' := Blk.below hb hb1
  have T1 := HT.out.trans (turn_below (S := fun j => j = B) hb1)
  cases t
  · go_wp2
    go_end0
    exact ⟨rfl, hb', T1⟩
  · go_wp2
    go_end0
    exact ⟨rfl, taken_bst hb' b l o, T1.trans (taken_turn _ B b l o)⟩
end Go.Proofs.Ythnelonbpbhhbab
