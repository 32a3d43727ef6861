import Derived.Test.YtngdgogjlpjjpadP00
namespace Go.Proofs.Ytngdgogjlpjjpad
open Go.RowKit
set_option linter.unusedVariables false
theorem okI_bounds {op d a i : Int} (h : okI op d a i = true) : 1 ≤ op ∧ op ≤ 25 ∧ 0 ≤ d ∧ d ≤ 7 ∧ 0 ≤ a ∧ a ≤ 7 ∧ 0 ≤ i ∧ i ≤ 65535 := by
  unfold okI okU at h
  simp at h
  obtain ⟨h0, h1, h2, h3, h4, h5, h6⟩ := h
  have hx : mD (us op) ≤ 7 := by unfold mD; split <;> omega
  have hy : mA (us op) ≤ 7 := by unfold mA; split <;> omega
  have hz : mI (us op) ≤ 65535 := by unfold mI; split <;> omega
  by_cases ho : op ≤ 0 ∨ 26 ≤ op
  · rw [us_out op ho] at h0
    omega
  · omega
def enc (op d a i : Int) : Int := op * 67108864 + d * 8388608 + a * 1048576 + i
def encV (op d a i : Int) : Int := if okI op d a i then enc op d a i else 0
set_option maxHeartbeats 1000000 in
theorem sEncode_any (op d a i : Int) (w : World) :
    Calls Try.prog 108 #[.agg #[.int .i64 op, .int .i64 d, .int .i64 a, .int .i64 i]] w fun e w' => e = .returned (.tuple #[.int .i64 (encV op d a i), .bool (okI op d a i)]) ∧ Below w.heap.size w w' := by
  have kb := Blk.new w #[.int .i64 op, .int .i64 d, .int .i64 a, .int .i64 i] 129
  have hB0 : Below w.heap.size w (w.alloc (.cells #[.int .i64 op, .int .i64 d, .int .i64 a, .int .i64 i] 129)) := (Below.refl _ _).alloc (Nat.le_refl _) _
  have HI := hide (l3InsOk_any op d a i)
  unfold encV
  cases hk : okI op d a i
  · rw [hk] at HI
    clear hk
    rw [if_neg (by simp)]
    go_enter Try.func108, Try.ntmps108
    go_wp2_with fail
    refine (HI.out _).mono ?_
    rintro e w1 ⟨rfl, hb1⟩
    go_wp2
    go_ret2
    exact ⟨rfl, hB0.trans (hb1.mono (by simp))⟩
  · obtain ⟨h1, h2, h3, h4, h5, h6, h7, h8⟩ := okI_bounds hk
    rw [hk] at HI
    clear hk
    rw [if_pos rfl]
    unfold enc
    go_enter Try.func108, Try.ntmps108
    go_wp2_with fail
    refine (HI.out _).mono ?_
    rintro e w1 ⟨rfl, hb1⟩
    obtain ⟨p1, p2, p3, p4, p5⟩ := (kb.below hb1).four'
    go_wp2
    go_ret2
    exact ⟨rfl, hB0.trans (hb1.mono (by simp))⟩
theorem info8 : (Try.prog.info? 5).map (fun i => (i.zero, i.size, i.bytes)) = some (some (.int .u8 0), 1, 1) := by kernel_rfl
theorem made8 (n : Nat) : (madeCells (Value.cells (.int .u8 0)) (n * 1)) = ((List.replicate n (0:Int)).map (Value.int .u8)).toArray := by
  apply Array.ext
  · simp [size_madeCells]
  · intro i h1 h2
    simp [madeCells, Value.cells, Nat.mod_one]
theorem row_of_made {w : World} {base g n : Nat} (h : w.ownsRow base 5 1 (.slice (some ⟨g, 0, none⟩) n n) n (madeCells (Value.cells (.int .u8 0)) (n * 1)).toList) : Row8 w g (List.replicate n 0) := by
  obtain ⟨hl, h | ⟨g', cap, cur, hv, hb, hh, h1, h2, h3, h4⟩⟩ := h
  · simp at h
  · simp at hv
    obtain ⟨rfl, rfl⟩ := hv
    unfold Row8
    rw [hh]
    have e : cur.toList = (madeCells (Value.cells (.int .u8 0)) (n * 1)).toList := by
      rw [← h4, List.take_of_length_le (by simp [h3])]
    have e2 : cur = madeCells (Value.cells (.int .u8 0)) (n * 1) := Array.toList_inj.1 e
    rw [e2, made8]
theorem below_grown {w w' : World} (h : w.grownBy w' none) : Below w.heap.size w w' := (Below.refl _ _).grown h (Nat.le_refl _) (fun k hk => by cases hk)
def mok (n1 n2 n3 : Nat) : Bool := decide (n1 ≤ 16384 ∧ n2 ≤ 16384 ∧ n3 ≤ 5000)
theorem Blk.three {w : World} {g : Nat} {a b c : Value} {t : TypeId} (h : Blk w g #[a, b, c] t) :
    w.cell? ⟨g, 0, none⟩ = some a ∧ w.cell? ⟨g, 1, none⟩ = some b ∧ w.cell? ⟨g, 2, none⟩ = some c ∧ ∀ i, w.frozen? ⟨g, i, none⟩ = false :=
  ⟨by rw [h.cell]; rfl, by rw [h.cell]; rfl, by rw [h.cell]; rfl, fun i => h.frozen i⟩
end Go.Proofs.Ytngdgogjlpjjpad
