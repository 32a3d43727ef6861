import Derived.Test.YtngdgogjlpjjpadGreatJ25
namespace Go.Proofs.YtngdgogjlpjjpadGreat
open Go.RowKit Go.Maps
set_option linter.unusedVariables false
set_option linter.unusedSimpArgs false
set_option maxRecDepth 100000

theorem fst_congr {f g : Nat → List UInt8} {s : List UInt8} : ∀ k, (∀ i, i < k → f i = g i) → fst? f s k = fst? g s k
  | 0, _ => rfl
  | k + 1, h => by rw [fst_succ, fst_succ, fst_congr k (fun i hi => h i (by omega)), h k (by omega)]
theorem all_congr_range {f g : Nat → Bool} : ∀ n, (∀ i, i < n → f i = g i) → (List.range n).all f = (List.range n).all g
  | 0, _ => rfl
  | n + 1, h => by rw [List.range_succ, List.all_append, List.all_append, all_congr_range n (fun i hi => h i (by omega))]; simp [h n (by omega)]
/-- modules that have the same names and exports -/
def SameR (n : Nat) (ms ms' : List Md) : Prop := ∀ i, i < n → (ms'.getD i zMd).nm = (ms.getD i zMd).nm ∧ (ms'.getD i zMd).en = (ms.getD i zMd).en ∧ (ms'.getD i zMd).es = (ms.getD i zMd).es
theorem rsT_lt {n : Nat} {ms : List Md} {s : ByteArray} {i k : Nat} (h : rsT n ms s = some (i, k)) : i < n := by
  unfold rsT at h
  split at h
  · cases hf : fst? (mdNm ms) (cutA s).data.toList n with
    | none => rw [hf] at h; cases h
    | some j =>
      rw [hf] at h
      simp at h
      obtain ⟨k', h1, rfl, rfl⟩ := h
      exact fst_lt _ _ _ _ hf
  · cases h
theorem rsT_congr {n : Nat} {ms ms' : List Md} {s : ByteArray} (h : SameR n ms ms') : rsT n ms' s = rsT n ms s := by
  unfold rsT
  have e1 : tbf n ms' = tbf n ms := by
    unfold tbf
    rw [all_congr_range n (fun i hi => by rw [(h i hi).2.1])]
  have e2 : fst? (mdNm ms') (cutA s).data.toList n = fst? (mdNm ms) (cutA s).data.toList n := fst_congr n (fun i hi => by unfold mdNm; rw [(h i hi).1])
  rw [e1, e2]
  cases hf : fst? (mdNm ms) (cutA s).data.toList n with
  | none => rfl
  | some j =>
    obtain ⟨_, h2, h3⟩ := h j (fst_lt _ _ _ _ hf)
    simp only [Option.bind_some]
    rw [h2, h3]
theorem rsv_congr {n : Nat} {ms ms' : List Md} {s : ByteArray} (h : SameR n ms ms') : rsv n ms' s = rsv n ms s := by
  cases hr : rsT n ms s with
  | none => rw [rsv_none hr, rsv_none (by rw [rsT_congr h]; exact hr)]
  | some p =>
    obtain ⟨i, k⟩ := p
    obtain ⟨_, h2, h3⟩ := h i (rsT_lt hr)
    rw [rsv_some hr, rsv_some (by rw [rsT_congr h]; exact hr), h3]
theorem rsv_shape (n : Nat) (ms : List Md) (s : ByteArray) : ∃ (x y z : Int) (ok : Bool), rsv n ms s = .tuple #[.agg #[.int .i64 x, .int .i64 y, .int .i64 z], .bool ok] := by
  cases hr : rsT n ms s with
  | none => exact ⟨_, _, _, _, rsv_none hr⟩
  | some p => exact ⟨_, _, _, _, rsv_some hr⟩
theorem RowM.ms {W w : World} {c n cap : Nat} {a : Option Addr} {ms ms' : List Md} (h : RowM W c n ms ms') (hl : ms'.length = n) (hm : MS w a n cap ms) : MS W (some ⟨c, 0, none⟩) n n ms' := by
  obtain ⟨_, _, hr⟩ := h
  refine ⟨hl, hm.2.1, fun _ => ⟨c, 0, rfl, fun i hi => ?_⟩, fun i hi => copy_mt (hm.2.2.2.1 i hi) (hr i (by omega)).2, Nat.le_refl _⟩
  rw [Nat.zero_add]
  exact (hr i (by omega)).1
theorem RowM.sameR {W : World} {c n : Nat} {ms ms' : List Md} (h : RowM W c n ms ms') (hl : ms'.length = n) : SameR n ms ms' := fun i hi => by
  obtain ⟨_, _, _, _, _, _, gs, e, _⟩ := (h.2.2 i (by omega)).2
  rw [e]
  exact ⟨rfl, rfl, rfl⟩
theorem RowM.same {W W' : World} {c c' n cap : Nat} {ms x y : List Md} {a : Option Addr} {w : World} (hm : MS w a n cap ms) (h : RowM W c n ms x) (hl : x.length = n) (h' : RowM W' c' n ms y) (hl' : y.length = n) : ∀ i, i < n → Same (x.getD i zMd) (y.getD i zMd) := fun i hi =>
  same_copies (hm.2.2.2.1 i hi).b.1 (h.2.2 i (by omega)).2 (h'.2.2 i (by omega)).2
theorem RowM.exps {W w : World} {c n cap : Nat} {a : Option Addr} {ms ms' : List Md} (h : RowM W c n ms ms') (hl : ms'.length = n) (hm : MS w a n cap ms) (hs : ∀ i, i < n → (ms.getD i zMd).size ≤ 1048576) : ∀ i, i < n → ES W (ms'.getD i zMd).ea (ms'.getD i zMd).en (ms'.getD i zMd).ec (ms'.getD i zMd).es ∧ (ms'.getD i zMd).en ≤ 1048576 := fun i hi => by
  have ht := copy_mt (hm.2.2.2.1 i hi) (h.2.2 i (by omega)).2
  obtain ⟨_, e2, e3⟩ := h.sameR hl i hi
  have hz := hs i hi
  unfold Md.size mdSize at hz
  rw [← e2, ← e3] at hz
  exact ⟨ht.e.es (by omega), by omega⟩

set_option maxHeartbeats 1000000 in
theorem eqTarget_same (x y z : Int) (w : World) : Calls Tryz.prog 264 #[.agg #[.int .i64 x, .int .i64 y, .int .i64 z], .agg #[.int .i64 x, .int .i64 y, .int .i64 z]] w fun e w' => e = .returned (.bool true) ∧ Below w.heap.size w w' := by
  have hB : Below w.heap.size w ((w.alloc (.cells #[.int .i64 x, .int .i64 y, .int .i64 z] 72)).alloc (.cells #[.int .i64 x, .int .i64 y, .int .i64 z] 72)) := ((Below.refl _ _).alloc (Nat.le_refl _) _).alloc (by simp) _
  have hx : (x != x) = false := by simp
  have hy : (y != y) = false := by simp
  have hz : (z != z) = false := by simp
  go_enter Tryz.func264, Tryz.ntmps264
  go_wp2
  go_ret
  exact ⟨rfl, hB⟩

end Go.Proofs.YtngdgogjlpjjpadGreat
