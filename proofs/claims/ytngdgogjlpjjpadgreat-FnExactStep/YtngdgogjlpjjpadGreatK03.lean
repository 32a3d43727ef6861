import Derived.Test.YtngdgogjlpjjpadGreatK02
namespace Go.Proofs.YtngdgogjlpjjpadGreat
open Go.RowKit
set_option linter.unusedVariables false

theorem us_in (op : Int) (h : 1 ≤ op) (h2 : op ≤ 25) : 0 ≤ us op := by
  rcases op_cases op with h | h | rfl | rfl | rfl | rfl | rfl | rfl | rfl | rfl | rfl | rfl | rfl | rfl | rfl | rfl | rfl | rfl | rfl | rfl | rfl | rfl | rfl | rfl | rfl | rfl | rfl
  · omega
  · omega
  all_goals decide

set_option maxHeartbeats 1000000 in
theorem insOk_any (op d a i : Int) (w : World) :
    Calls Tryz.prog 270 #[.agg #[.int .i64 op, .int .i64 d, .int .i64 a, .int .i64 i]] w fun e w' => e = .returned (.bool (okI op d a i)) ∧ Below w.heap.size w w' := by
  have kb := Blk.new w #[.int .i64 op, .int .i64 d, .int .i64 a, .int .i64 i] 124
  have hB0 : Below w.heap.size w (w.alloc (.cells #[.int .i64 op, .int .i64 d, .int .i64 a, .int .i64 i] 124)) := (Below.refl _ _).alloc (Nat.le_refl _) _
  by_cases h : op ≤ 0 ∨ 26 ≤ op
  · have HF : Hid (okI op d a i = false) := by show _ = _; unfold okI okU; rw [us_out op h]; simp
    have HG := hide (fun w => greatest_out op w h)
    clear h
    go_enter Tryz.func270, Tryz.ntmps270
    go_wp2_with fail
    refine (HG.out _).mono ?_
    rintro e w1 ⟨rfl, hb1⟩
    have HB : Below w.heap.size w w1 := hB0.trans (hb1.mono (by simp))
    have hz : w.heap.size < w1.heap.size := by have := hb1.size; simp at this; omega
    go_wp2
    go_ret
    exact ⟨ret_bool HF.out.symm, HB.alloc (by omega) _⟩
  · have HG := hide (fun w => greatest_in op w (by omega) (by omega))
    have HU := hide (us_in op (by omega) (by omega))
    unfold okI
    generalize us op = u at *
    unfold okU
    generalize mD u = x at *
    generalize mA u = y at *
    generalize mI u = z at *
    clear h
    have H1 := hide (isUpTo_any d x)
    have H2 := hide (isUpTo_any a y)
    have H3 := hide (isUpTo_any i z)
    have HR : Hid (decide (0 ≤ u ∧ 0 ≤ d ∧ d ≤ x ∧ 0 ≤ a ∧ a ≤ y ∧ 0 ≤ i ∧ i ≤ z) = (decide (0 ≤ d ∧ d ≤ x) && decide (0 ≤ a ∧ a ≤ y) && decide (0 ≤ i ∧ i ≤ z))) := by
      show _ = _
      rw [Bool.eq_iff_iff]
      have := HU.out
      simp
      omega
    rw [HR.out]
    clear HR
    generalize decide (0 ≤ d ∧ d ≤ x) = b1 at *
    generalize decide (0 ≤ a ∧ a ≤ y) = b2 at *
    generalize decide (0 ≤ i ∧ i ≤ z) = b3 at *
    cases b1
    · go_enter Tryz.func270, Tryz.ntmps270
      go_wp2_with fail
      refine (HG.out _).mono ?_
      rintro e w1 ⟨rfl, hb1⟩
      have kb1 := (kb.below hb1).four'
      obtain ⟨p1, p2, p3, p4, p5⟩ := kb1
      have HB : Below w.heap.size w w1 := hB0.trans (hb1.mono (by simp))
      have hz : w.heap.size < w1.heap.size := by have := hb1.size; simp at this; omega
      go_wp2_with fail
      refine (H1.out _).mono ?_
      rintro e w1 ⟨rfl, rfl⟩
      go_wp2
      go_ret
      exact ⟨rfl, HB.alloc (by omega) _⟩
    · cases b2
      · go_enter Tryz.func270, Tryz.ntmps270
        go_wp2_with fail
        refine (HG.out _).mono ?_
        rintro e w1 ⟨rfl, hb1⟩
        have kb1 := (kb.below hb1).four'
        obtain ⟨p1, p2, p3, p4, p5⟩ := kb1
        have HB : Below w.heap.size w w1 := hB0.trans (hb1.mono (by simp))
        have hz : w.heap.size < w1.heap.size := by have := hb1.size; simp at this; omega
        go_wp2_with fail
        refine (H1.out _).mono ?_
        rintro e w1 ⟨rfl, rfl⟩
        go_wp2_with fail
        refine (H2.out _).mono ?_
        rintro e w1 ⟨rfl, rfl⟩
        go_wp2
        go_ret
        exact ⟨rfl, HB.alloc (by omega) _⟩
      · go_enter Tryz.func270, Tryz.ntmps270
        go_wp2_with fail
        refine (HG.out _).mono ?_
        rintro e w1 ⟨rfl, hb1⟩
        have kb1 := (kb.below hb1).four'
        obtain ⟨p1, p2, p3, p4, p5⟩ := kb1
        have HB : Below w.heap.size w w1 := hB0.trans (hb1.mono (by simp))
        have hz : w.heap.size < w1.heap.size := by have := hb1.size; simp at this; omega
        go_wp2_with fail
        refine (H1.out _).mono ?_
        rintro e w1 ⟨rfl, rfl⟩
        go_wp2_with fail
        refine (H2.out _).mono ?_
        rintro e w1 ⟨rfl, rfl⟩
        go_wp2_with fail
        refine (H3.out _).mono ?_
        rintro e w1 ⟨rfl, rfl⟩
        go_wp2
        go_ret
        exact ⟨rfl, HB.alloc (by omega) _⟩
end Go.Proofs.YtngdgogjlpjjpadGreat

namespace Go.Proofs.YtngdgogjlpjjpadGreat
open Go.RowKit
set_option linter.unusedVariables false

theorem ins_end (fn : Func) (hr : fn.results = #[.cell 2 124, .tmp 3]) (w W : World) (tmps : Array Value) (o d a i : Int) (b : Bool) (h2 : tmps[2]? = some (.pointer (some ⟨w.heap.size, 0, none⟩))) (h3 : tmps[3]? = some (.bool b))
    (hz : Blk W w.heap.size #[.int .i64 o, .int .i64 d, .int .i64 a, .int .i64 i] 124) (hB : Below w.heap.size w W) :
    bodyPost Tryz.prog fn (InsPost w o d a i b) Exit.ret ⟨tmps, []⟩ W := by
  refine bodyPost_ret (v := .tuple #[.agg #[.int .i64 o, .int .i64 d, .int .i64 a, .int .i64 i], .bool b]) ?_ rfl ⟨rfl, hB⟩
  obtain ⟨p1, p2, p3, p4, p5⟩ := hz.four'
  simp [results, hr, go_sem, h2, h3, p1, p2, p3, p4]

/-- the words that have the form of an instruction -/
def dForm (x : Int) : Bool := decide (0 ≤ x ∧ x ≤ 4294967295 ∧ x / 65536 % 16 = 0)
/-- the words of instructions -/
def dOk (x : Int) : Bool := dForm x && okI (x / 67108864) (x / 8388608 % 8) (x / 1048576 % 8) (x % 65536)
def DecPost (w : World) (x : Int) : Ending → World → Prop :=
  if dOk x then InsPost w (x / 67108864) (x / 8388608 % 8) (x / 1048576 % 8) (x % 65536) true else InsPost w 0 0 0 0 false

set_option maxHeartbeats 1000000 in
theorem sDecode_out (x : Int) (w : World) (h : dForm x = false) :
    Calls Tryz.prog 84 #[.int .i64 x] w (InsPost w 0 0 0 0 false) := by
  have hc : x < 0 ∨ 4294967295 < x ∨ (0 ≤ x ∧ x ≤ 4294967295 ∧ x / 65536 % 16 ≠ 0) := by
    unfold dForm at h
    simp at h
    omega
  clear h
  rcases hc with h | h | ⟨h1, h2, h3⟩
  · go_enter Tryz.func84, Tryz.ntmps84
    go_wp2
    exact ins_end _ Tryz.results84 w _ _ 0 0 0 0 false rfl rfl (Blk.new w _ _) ((Below.refl _ _).alloc (Nat.le_refl _) _)
  · go_enter Tryz.func84, Tryz.ntmps84
    go_wp2
    exact ins_end _ Tryz.results84 w _ _ 0 0 0 0 false rfl rfl (Blk.new w _ _) ((Below.refl _ _).alloc (Nat.le_refl _) _)
  · have h3' : (x / 65536 % 16 != 0) = true := by simpa using h3
    clear h3
    go_enter Tryz.func84, Tryz.ntmps84
    go_wp2
    exact ins_end _ Tryz.results84 w _ _ 0 0 0 0 false rfl rfl (Blk.new w _ _) ((Below.refl _ _).alloc (Nat.le_refl _) _)

set_option maxHeartbeats 1000000 in
theorem iDecode_out (x : Int) (w : World) (h : dForm x = false) :
    Calls Tryz.prog 222 #[.int .i64 x] w (InsPost w 0 0 0 0 false) := by
  have hc : (x < 0 ∨ 4294967295 < x) ∨ (0 ≤ x ∧ x ≤ 4294967295 ∧ x / 65536 % 16 ≠ 0) := by
    unfold dForm at h
    simp at h
    omega
  clear h
  have HW := hide (isWord_any x)
  rcases hc with h | ⟨h1, h2, h3⟩
  · have e0 : decide (0 ≤ x ∧ x ≤ 4294967295) = false := by simp; omega
    rw [e0] at HW
    go_enter Tryz.func222, Tryz.ntmps222
    go_wp2_with fail
    refine (HW.out _).mono ?_
    rintro e w1 ⟨rfl, rfl⟩
    go_wp2
    exact ins_end _ Tryz.results222 w _ _ 0 0 0 0 false rfl rfl (Blk.new w _ _) ((Below.refl _ _).alloc (Nat.le_refl _) _)
  · have e0 : decide (0 ≤ x ∧ x ≤ 4294967295) = true := by simp; omega
    rw [e0] at HW
    have h3' : (bits .and .i64 x 983040 != 0) = true := by rw [and_zero x h1 h2]; simp; omega
    clear h3
    go_enter Tryz.func222, Tryz.ntmps222
    go_wp2_with fail
    refine (HW.out _).mono ?_
    rintro e w1 ⟨rfl, rfl⟩
    go_wp2
    exact ins_end _ Tryz.results222 w _ _ 0 0 0 0 false rfl rfl (Blk.new w _ _) ((Below.refl _ _).alloc (Nat.le_refl _) _)

theorem dec_two (w w2 : World) (o d a i : Int) (hb2 : Below ((w.alloc (.cells #[.int .i64 0, .int .i64 0, .int .i64 0, .int .i64 0] 124)).alloc (.cells #[.int .i64 o, .int .i64 d, .int .i64 a, .int .i64 i] 124)).heap.size ((w.alloc (.cells #[.int .i64 0, .int .i64 0, .int .i64 0, .int .i64 0] 124)).alloc (.cells #[.int .i64 o, .int .i64 d, .int .i64 a, .int .i64 i] 124)) w2) :
    Blk w2 w.heap.size #[.int .i64 0, .int .i64 0, .int .i64 0, .int .i64 0] 124 ∧ Blk w2 (w.heap.size + 1) #[.int .i64 o, .int .i64 d, .int .i64 a, .int .i64 i] 124 ∧ Below w.heap.size w w2 := by
  have k0 := Blk.new w #[.int .i64 0, .int .i64 0, .int .i64 0, .int .i64 0] 124
  have b1 : Below w.heap.size w (w.alloc (.cells #[.int .i64 0, .int .i64 0, .int .i64 0, .int .i64 0] 124)) := (Below.refl _ _).alloc (Nat.le_refl _) _
  have b2 : Below w.heap.size w ((w.alloc (.cells #[.int .i64 0, .int .i64 0, .int .i64 0, .int .i64 0] 124)).alloc (.cells #[.int .i64 o, .int .i64 d, .int .i64 a, .int .i64 i] 124)) := b1.alloc (by simp) _
  have k1 := Blk.new (w.alloc (.cells #[.int .i64 0, .int .i64 0, .int .i64 0, .int .i64 0] 124)) #[.int .i64 o, .int .i64 d, .int .i64 a, .int .i64 i] 124
  have c1 : Below (w.alloc (.cells #[.int .i64 0, .int .i64 0, .int .i64 0, .int .i64 0] 124)).heap.size (w.alloc (.cells #[.int .i64 0, .int .i64 0, .int .i64 0, .int .i64 0] 124)) ((w.alloc (.cells #[.int .i64 0, .int .i64 0, .int .i64 0, .int .i64 0] 124)).alloc (.cells #[.int .i64 o, .int .i64 d, .int .i64 a, .int .i64 i] 124)) := (Below.refl _ _).alloc (Nat.le_refl _) _
  refine ⟨(k0.below c1).below hb2, ?_, b2.trans (hb2.mono (by simp; omega))⟩
  have := k1.below hb2
  simpa using this

set_option maxHeartbeats 1000000 in
theorem sDecode_any (x : Int) (w : World) : Calls Tryz.prog 84 #[.int .i64 x] w (DecPost w x) := by
  unfold DecPost dOk
  cases hF : dForm x
  · exact sDecode_out x w hF
  · unfold dForm at hF
    simp at hF
    obtain ⟨h, h2, h3⟩ := hF
    have HI := hide (l3InsOk_any (x / 67108864) (x / 8388608 % 8) (x / 1048576 % 8) (x % 65536))
    generalize okI (x / 67108864) (x / 8388608 % 8) (x / 1048576 % 8) (x % 65536) = b at *
    have h3' : (x / 65536 % 16 != 0) = false := by simpa using h3
    clear h3
    rw [Bool.true_and]
    cases b
    · rw [if_neg (by simp)]
      go_enter Tryz.func84, Tryz.ntmps84
      go_wp2_with fail
      refine (HI.out _).mono ?_
      rintro e w2 ⟨rfl, hb2⟩
      obtain ⟨k0, k1, hB⟩ := dec_two w w2 _ _ _ _ hb2
      obtain ⟨p1, p2, p3, p4, p5⟩ := k0.four'
      have K0 := hide k0
      clear k0
      go_wp2
      exact ins_end _ Tryz.results84 w _ _ 0 0 0 0 false rfl rfl (ins_set K0.out 0 0 0 0) (ins_below (Nat.le_refl _) hB 0 0 0 0)
    · rw [if_pos rfl]
      go_enter Tryz.func84, Tryz.ntmps84
      go_wp2_with fail
      refine (HI.out _).mono ?_
      rintro e w2 ⟨rfl, hb2⟩
      obtain ⟨k0, k1, hB⟩ := dec_two w w2 _ _ _ _ hb2
      obtain ⟨p1, p2, p3, p4, p5⟩ := k0.four'
      obtain ⟨q1, q2, q3, q4, q5⟩ := k1.four'
      have K0 := hide k0
      clear k0 k1
      go_wp2
      exact ins_end _ Tryz.results84 w _ _ _ _ _ _ true rfl rfl (ins_set K0.out _ _ _ _) (ins_below (Nat.le_refl _) hB _ _ _ _)

set_option maxHeartbeats 1000000 in
theorem iDecode_any (x : Int) (w : World) : Calls Tryz.prog 222 #[.int .i64 x] w (DecPost w x) := by
  unfold DecPost dOk
  cases hF : dForm x
  · exact iDecode_out x w hF
  · unfold dForm at hF
    simp at hF
    obtain ⟨h, h2, h3⟩ := hF
    have HW := hide (isWord_any x)
    have e0 : decide (0 ≤ x ∧ x ≤ 4294967295) = true := by simp; omega
    rw [e0] at HW
    have HI := hide (insOk_any (x / 67108864) (x / 8388608 % 8) (x / 1048576 % 8) (x % 65536))
    generalize okI (x / 67108864) (x / 8388608 % 8) (x / 1048576 % 8) (x % 65536) = b at *
    have h3' : (bits .and .i64 x 983040 != 0) = false := by rw [and_zero x h h2, h3]; rfl
    have E1 := hide (and_7 (x / 8388608) (by omega) (by omega))
    have E2 := hide (and_7 (x / 1048576) (by omega) (by omega))
    have E3 := hide (and_imm x (by omega) (by omega))
    clear h3
    rw [Bool.true_and]
    cases b
    · rw [if_neg (by simp)]
      go_enter Tryz.func222, Tryz.ntmps222
      go_wp2_with fail
      refine (HW.out _).mono ?_
      rintro e w1 ⟨rfl, rfl⟩
      go_wp2_with fail
      rw [E1.out, E2.out, E3.out]
      refine (HI.out _).mono ?_
      rintro e w2 ⟨rfl, hb2⟩
      obtain ⟨k0, k1, hB⟩ := dec_two w w2 _ _ _ _ hb2
      obtain ⟨p1, p2, p3, p4, p5⟩ := k0.four'
      have K0 := hide k0
      clear k0
      go_wp2
      exact ins_end _ Tryz.results222 w _ _ 0 0 0 0 false rfl rfl (ins_set K0.out 0 0 0 0) (ins_below (Nat.le_refl _) hB 0 0 0 0)
    · rw [if_pos rfl]
      go_enter Tryz.func222, Tryz.ntmps222
      go_wp2_with fail
      refine (HW.out _).mono ?_
      rintro e w1 ⟨rfl, rfl⟩
      go_wp2_with fail
      rw [E1.out, E2.out, E3.out]
      refine (HI.out _).mono ?_
      rintro e w2 ⟨rfl, hb2⟩
      obtain ⟨k0, k1, hB⟩ := dec_two w w2 _ _ _ _ hb2
      obtain ⟨p1, p2, p3, p4, p5⟩ := k0.four'
      obtain ⟨q1, q2, q3, q4, q5⟩ := k1.four'
      have K0 := hide k0
      clear k0 k1
      go_wp2
      exact ins_end _ Tryz.results222 w _ _ _ _ _ _ true rfl rfl (ins_set K0.out _ _ _ _) (ins_below (Nat.le_refl _) hB _ _ _ _)
end Go.Proofs.YtngdgogjlpjjpadGreat
