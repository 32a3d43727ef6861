import Derived.Test.YtaillnegkfagfacGreatJ02
import Derived.Test.YtaillnegkfagfacGreatJ00
import Derived.Deep.RegionWith
namespace Go.Proofs.YtaillnegkfagfacGreat
open Go.RowKit
set_option linter.unusedVariables false

theorem us_in (op : Int) (h : 1 ≤ op) (h2 : op ≤ 25) : 0 ≤ us op := by
  rcases op_cases op with h | h | rfl | rfl | rfl | rfl | rfl | rfl | rfl | rfl | rfl | rfl | rfl | rfl | rfl | rfl | rfl | rfl | rfl | rfl | rfl | rfl | rfl | rfl | rfl | rfl | rfl
  · omega
  · omega
  all_goals decide

set_option maxHeartbeats 1000000 in
theorem insOk_any (op d a i : Int) (w : World) :
    Calls Tryz.prog 99 #[.agg #[.int .i64 op, .int .i64 d, .int .i64 a, .int .i64 i]] w fun e w' => e = .returned (.bool (okI op d a i)) ∧ Below w.heap.size w w' := by
  have kb := Blk.new w #[.int .i64 op, .int .i64 d, .int .i64 a, .int .i64 i] 53
  have hB0 : Below w.heap.size w (w.alloc (.cells #[.int .i64 op, .int .i64 d, .int .i64 a, .int .i64 i] 53)) := (Below.refl _ _).alloc (Nat.le_refl _) _
  by_cases h : op ≤ 0 ∨ 26 ≤ op
  · have HF : Hid (okI op d a i = false) := by show _ = _; unfold okI okU; rw [us_out op h]; simp
    have HG := hide (fun w => greatest_out op w h)
    clear h
    go_enter Tryz.func99, Tryz.ntmps99
    go_wp2_with fail
    refine (HG.out _).mono ?_
    rintro e w1 ⟨rfl, hb1⟩
    have HB : Below w.heap.size w w1 := hB0.trans (hb1.mono (by simp))
    have hz : w.heap.size < w1.heap.size := by have := hb1.size; simp at this; omega
    go_wp2
    go_ret
    exact ⟨ret_bool HF.out.symm, HB.alloc (by omega) _⟩
  · have HG := hide (fun w => greatest_in op w (by omega) (by omega))
    have HU := hide (us_in op (by omega) (by omega))
    unfold okI
    generalize us op = u at *
    unfold okU
    generalize mD u = x at *
    generalize mA u = y at *
    generalize mI u = z at *
    clear h
    have H1 := hide (isUpTo_any d x)
    have H2 := hide (isUpTo_any a y)
    have H3 := hide (isUpTo_any i z)
    have HR : Hid (decide (0 ≤ u ∧ 0 ≤ d ∧ d ≤ x ∧ 0 ≤ a ∧ a ≤ y ∧ 0 ≤ i ∧ i ≤ z) = (decide (0 ≤ d ∧ d ≤ x) && decide (0 ≤ a ∧ a ≤ y) && decide (0 ≤ i ∧ i ≤ z))) := by
      show _ = _
      rw [Bool.eq_iff_iff]
      have := HU.out
      simp
      omega
    rw [HR.out]
    clear HR
    generalize decide (0 ≤ d ∧ d ≤ x) = b1 at *
    generalize decide (0 ≤ a ∧ a ≤ y) = b2 at *
    generalize decide (0 ≤ i ∧ i ≤ z) = b3 at *
    cases b1
    · go_enter Tryz.func99, Tryz.ntmps99
      go_wp2_with fail
      refine (HG.out _).mono ?_
      rintro e w1 ⟨rfl, hb1⟩
      have kb1 := (kb.below hb1).four'
      obtain ⟨p1, p2, p3, p4, p5⟩ := kb1
      have HB : Below w.heap.size w w1 := hB0.trans (hb1.mono (by simp))
      have hz : w.heap.size < w1.heap.size := by have := hb1.size; simp at this; omega
      go_wp2_with fail
      refine (H1.out _).mono ?_
      rintro e w1 ⟨rfl, rfl⟩
      go_wp2
      go_ret
      exact ⟨rfl, HB.alloc (by omega) _⟩
    · cases b2
      · go_enter Tryz.func99, Tryz.ntmps99
        go_wp2_with fail
        refine (HG.out _).mono ?_
        rintro e w1 ⟨rfl, hb1⟩
        have kb1 := (kb.below hb1).four'
        obtain ⟨p1, p2, p3, p4, p5⟩ := kb1
        have HB : Below w.heap.size w w1 := hB0.trans (hb1.mono (by simp))
        have hz : w.heap.size < w1.heap.size := by have := hb1.size; simp at this; omega
        go_wp2_with fail
        refine (H1.out _).mono ?_
        rintro e w1 ⟨rfl, rfl⟩
        go_wp2_with fail
        refine (H2.out _).mono ?_
        rintro e w1 ⟨rfl, rfl⟩
        go_wp2
        go_ret
        exact ⟨rfl, HB.alloc (by omega) _⟩
      · go_enter Tryz.func99, Tryz.ntmps99
        go_wp2_with fail
        refine (HG.out _).mono ?_
        rintro e w1 ⟨rfl, hb1⟩
        have kb1 := (kb.below hb1).four'
        obtain ⟨p1, p2, p3, p4, p5⟩ := kb1
        have HB : Below w.heap.size w w1 := hB0.trans (hb1.mono (by simp))
        have hz : w.heap.size < w1.heap.size := by have := hb1.size; simp at this; omega
        go_wp2_with fail
        refine (H1.out _).mono ?_
        rintro e w1 ⟨rfl, rfl⟩
        go_wp2_with fail
        refine (H2.out _).mono ?_
        rintro e w1 ⟨rfl, rfl⟩
        go_wp2_with fail
        refine (H3.out _).mono ?_
        rintro e w1 ⟨rfl, rfl⟩
        go_wp2
        go_ret
        exact ⟨rfl, HB.alloc (by omega) _⟩
end Go.Proofs.YtaillnegkfagfacGreat

namespace Go.Proofs.YtaillnegkfagfacGreat
open Go.RowKit
set_option linter.unusedVariables false

theorem ins_end (fn : Func) (hr : fn.results = #[.cell 2 53, .tmp 3]) (w W : World) (tmps : Array Value) (o d a i : Int) (b : Bool) (h2 : tmps[2]? = some (.pointer (some ⟨w.heap.size, 0, none⟩))) (h3 : tmps[3]? = some (.bool b))
    (hz : Blk W w.heap.size #[.int .i64 o, .int .i64 d, .int .i64 a, .int .i64 i] 53) (hB : Below w.heap.size w W) :
    bodyPost Tryz.prog fn (InsPost w o d a i b) Exit.ret ⟨tmps, []⟩ W := by
  refine bodyPost_ret (v := .tuple #[.agg #[.int .i64 o, .int .i64 d, .int .i64 a, .int .i64 i], .bool b]) ?_ rfl ⟨rfl, hB⟩
  obtain ⟨p1, p2, p3, p4, p5⟩ := hz.four'
  simp [results, hr, go_sem, h2, h3, p1, p2, p3, p4]

/-- the words that have the form of an instruction -/
def dForm (x : Int) : Bool := decide (0 ≤ x ∧ x ≤ 4294967295 ∧ x / 65536 % 16 = 0)
/-- the words of instructions -/
def dOk (x : Int) : Bool := dForm x && okI (x / 67108864) (x / 8388608 % 8) (x / 1048576 % 8) (x % 65536)
def DecPost (w : World) (x : Int) : Ending → World → Prop :=
  if dOk x then InsPost w (x / 67108864) (x / 8388608 % 8) (x / 1048576 % 8) (x % 65536) true else InsPost w 0 0 0 0 false

set_option maxHeartbeats 1000000 in
theorem sDecode_out (x : Int) (w : World) (h : dForm x = false) :
    Calls Tryz.prog 21 #[.int .i64 x] w (InsPost w 0 0 0 0 false) := by
  have hc : x < 0 ∨ 4294967295 < x ∨ (0 ≤ x ∧ x ≤ 4294967295 ∧ x / 65536 % 16 ≠ 0) := by
    unfold dForm at h
    simp at h
    omega
  clear h
  rcases hc with h | h | ⟨h1, h2, h3⟩
  · go_enter Tryz.func21, Tryz.ntmps21
    go_wp2
    exact ins_end _ Tryz.results21 w _ _ 0 0 0 0 false rfl rfl (Blk.new w _ _) ((Below.refl _ _).alloc (Nat.le_refl _) _)
  · go_enter Tryz.func21, Tryz.ntmps21
    go_wp2
    exact ins_end _ Tryz.results21 w _ _ 0 0 0 0 false rfl rfl (Blk.new w _ _) ((Below.refl _ _).alloc (Nat.le_refl _) _)
  · have h3' : (x / 65536 % 16 != 0) = true := by simpa using h3
    clear h3
    go_enter Tryz.func21, Tryz.ntmps21
    go_wp2
    exact ins_end _ Tryz.results21 w _ _ 0 0 0 0 false rfl rfl (Blk.new w _ _) ((Below.refl _ _).alloc (Nat.le_refl _) _)

set_option maxHeartbeats 1000000 in
theorem iDecode_out (x : Int) (w : World) (h : dForm x = false) :
    Calls Tryz.prog 58 #[.int .i64 x] w (InsPost w 0 0 0 0 false) := by
  have hc : (x < 0 ∨ 4294967295 < x) ∨ (0 ≤ x ∧ x ≤ 4294967295 ∧ x / 65536 % 16 ≠ 0) := by
    unfold dForm at h
    simp at h
    omega
  clear h
  have HW := hide (isWord_any x)
  rcases hc with h | ⟨h1, h2, h3⟩
  · have e0 : decide (0 ≤ x ∧ x ≤ 4294967295) = false := by simp; omega
    rw [e0] at HW
    go_enter Tryz.func58, Tryz.ntmps58
    go_wp2_with fail
    refine (HW.out _).mono ?_
    rintro e w1 ⟨rfl, rfl⟩
    go_wp2
    exact ins_end _ Tryz.results58 w _ _ 0 0 0 0 false rfl rfl (Blk.new w _ _) ((Below.refl _ _).alloc (Nat.le_refl _) _)
  · have e0 : decide (0 ≤ x ∧ x ≤ 4294967295) = true := by simp; omega
    rw [e0] at HW
    have h3' : (bits .and .i64 x 983040 != 0) = true := by rw [and_zero x h1 h2]; simp; omega
    clear h3
    go_enter Tryz.func58, Tryz.ntmps58
    go_wp2_with fail
    refine (HW.out _).mono ?_
    rintro e w1 ⟨rfl, rfl⟩
    go_wp2
    exact ins_end _ Tryz.results58 w _ _ 0 0 0 0 false rfl rfl (Blk.new w _ _) ((Below.refl _ _).alloc (Nat.le_refl _) _)

theorem dec_two (w w2 : World) (o d a i : Int) (hb2 : Below ((w.alloc (.cells #[.int .i64 0, .int .i64 0, .int .i64 0, .int .i64 0] 53)).alloc (.cells #[.int .i64 o, .int .i64 d, .int .i64 a, .int .i64 i] 53)).heap.size ((w.alloc (.cells #[.int .i64 0, .int .i64 0, .int .i64 0, .int .i64 0] 53)).alloc (.cells #[.int .i64 o, .int .i64 d, .int .i64 a, .int .i64 i] 53)) w2) :
    Blk w2 w.heap.size #[.int .i64 0, .int .i64 0, .int .i64 0, .int .i64 0] 53 ∧ Blk w2 (w.heap.size + 1) #[.int .i64 o, .int .i64 d, .int .i64 a, .int .i64 i] 53 ∧ Below w.heap.size w w2 := by
  have k0 := Blk.new w #[.int .i64 0, .int .i64 0, .int .i64 0, .int .i64 0] 53
  have b1 : Below w.heap.size w (w.alloc (.cells #[.int .i64 0, .int .i64 0, .int .i64 0, .int .i64 0] 53)) := (Below.refl _ _).alloc (Nat.le_refl _) _
  have b2 : Below w.heap.size w ((w.alloc (.cells #[.int .i64 0, .int .i64 0, .int .i64 0, .int .i64 0] 53)).alloc (.cells #[.int .i64 o, .int .i64 d, .int .i64 a, .int .i64 i] 53)) := b1.alloc (by simp) _
  have k1 := Blk.new (w.alloc (.cells #[.int .i64 0, .int .i64 0, .int .i64 0, .int .i64 0] 53)) #[.int .i64 o, .int .i64 d, .int .i64 a, .int .i64 i] 53
  have c1 : Below (w.alloc (.cells #[.int .i64 0, .int .i64 0, .int .i64 0, .int .i64 0] 53)).heap.size (w.alloc (.cells #[.int .i64 0, .int .i64 0, .int .i64 0, .int .i64 0] 53)) ((w.alloc (.cells #[.int .i64 0, .int .i64 0, .int .i64 0, .int .i64 0] 53)).alloc (.cells #[.int .i64 o, .int .i64 d, .int .i64 a, .int .i64 i] 53)) := (Below.refl _ _).alloc (Nat.le_refl _) _
  refine ⟨(k0.below c1).below hb2, ?_, b2.trans (hb2.mono (by simp; omega))⟩
  have := k1.below hb2
  simpa using this

set_option maxHeartbeats 1000000 in
theorem sDecode_any (x : Int) (w : World) : Calls Tryz.prog 21 #[.int .i64 x] w (DecPost w x) := by
  unfold DecPost dOk
  cases hF : dForm x
  · exact sDecode_out x w hF
  · unfold dForm at hF
    simp at hF
    obtain ⟨h, h2, h3⟩ := hF
    have HI := hide (l3InsOk_any (x / 67108864) (x / 8388608 % 8) (x / 1048576 % 8) (x % 65536))
    generalize okI (x / 67108864) (x / 8388608 % 8) (x / 1048576 % 8) (x % 65536) = b at *
    have h3' : (x / 65536 % 16 != 0) = false := by simpa using h3
    clear h3
    rw [Bool.true_and]
    cases b
    · rw [if_neg (by simp)]
      go_enter Tryz.func21, Tryz.ntmps21
      go_wp2_with fail
      refine (HI.out _).mono ?_
      rintro e w2 ⟨rfl, hb2⟩
      obtain ⟨k0, k1, hB⟩ := dec_two w w2 _ _ _ _ hb2
      obtain ⟨p1, p2, p3, p4, p5⟩ := k0.four'
      have K0 := hide k0
      clear k0
      go_wp2
      exact ins_end _ Tryz.results21 w _ _ 0 0 0 0 false rfl rfl (ins_set K0.out 0 0 0 0) (ins_below (Nat.le_refl _) hB 0 0 0 0)
    · rw [if_pos rfl]
      go_enter Tryz.func21, Tryz.ntmps21
      go_wp2_with fail
      refine (HI.out _).mono ?_
      rintro e w2 ⟨rfl, hb2⟩
      obtain ⟨k0, k1, hB⟩ := dec_two w w2 _ _ _ _ hb2
      obtain ⟨p1, p2, p3, p4, p5⟩ := k0.four'
      obtain ⟨q1, q2, q3, q4, q5⟩ := k1.four'
      have K0 := hide k0
      clear k0 k1
      go_wp2
      exact ins_end _ Tryz.results21 w _ _ _ _ _ _ true rfl rfl (ins_set K0.out _ _ _ _) (ins_below (Nat.le_refl _) hB _ _ _ _)

set_option maxHeartbeats 1000000 in
theorem iDecode_any (x : Int) (w : World) : Calls Tryz.prog 58 #[.int .i64 x] w (DecPost w x) := by
  unfold DecPost dOk
  cases hF : dForm x
  · exact iDecode_out x w hF
  · unfold dForm at hF
    simp at hF
    obtain ⟨h, h2, h3⟩ := hF
    have HW := hide (isWord_any x)
    have e0 : decide (0 ≤ x ∧ x ≤ 4294967295) = true := by simp; omega
    rw [e0] at HW
    have HI := hide (insOk_any (x / 67108864) (x / 8388608 % 8) (x / 1048576 % 8) (x % 65536))
    generalize okI (x / 67108864) (x / 8388608 % 8) (x / 1048576 % 8) (x % 65536) = b at *
    have h3' : (bits .and .i64 x 983040 != 0) = false := by rw [and_zero x h h2, h3]; rfl
    have E1 := hide (and_7 (x / 8388608) (by omega) (by omega))
    have E2 := hide (and_7 (x / 1048576) (by omega) (by omega))
    have E3 := hide (and_imm x (by omega) (by omega))
    clear h3
    rw [Bool.true_and]
    cases b
    · rw [if_neg (by simp)]
      go_enter Tryz.func58, Tryz.ntmps58
      go_wp2_with fail
      refine (HW.out _).mono ?_
      rintro e w1 ⟨rfl, rfl⟩
      go_wp2_with fail
      rw [E1.out, E2.out, E3.out]
      refine (HI.out _).mono ?_
      rintro e w2 ⟨rfl, hb2⟩
      obtain ⟨k0, k1, hB⟩ := dec_two w w2 _ _ _ _ hb2
      obtain ⟨p1, p2, p3, p4, p5⟩ := k0.four'
      have K0 := hide k0
      clear k0
      go_wp2
      exact ins_end _ Tryz.results58 w _ _ 0 0 0 0 false rfl rfl (ins_set K0.out 0 0 0 0) (ins_below (Nat.le_refl _) hB 0 0 0 0)
    · rw [if_pos rfl]
      go_enter Tryz.func58, Tryz.ntmps58
      go_wp2_with fail
      refine (HW.out _).mono ?_
      rintro e w1 ⟨rfl, rfl⟩
      go_wp2_with fail
      rw [E1.out, E2.out, E3.out]
      refine (HI.out _).mono ?_
      rintro e w2 ⟨rfl, hb2⟩
      obtain ⟨k0, k1, hB⟩ := dec_two w w2 _ _ _ _ hb2
      obtain ⟨p1, p2, p3, p4, p5⟩ := k0.four'
      obtain ⟨q1, q2, q3, q4, q5⟩ := k1.four'
      have K0 := hide k0
      clear k0 k1
      go_wp2
      exact ins_end _ Tryz.results58 w _ _ _ _ _ _ true rfl rfl (ins_set K0.out _ _ _ _) (ins_below (Nat.le_refl _) hB _ _ _ _)
end Go.Proofs.YtaillnegkfagfacGreat

namespace Go.Proofs.YtaillnegkfagfacGreat
open Go.RowKit
set_option linter.unusedVariables false

theorem info8 : (Tryz.prog.info? 5).map (fun i => (i.zero, i.size, i.bytes)) = some (some (.int .u8 0), 1, 1) := by kernel_rfl

theorem made8 (n : Nat) : (madeCells (Value.cells (.int .u8 0)) (n * 1)) = ((List.replicate n (0:Int)).map (Value.int .u8)).toArray := by
  apply Array.ext
  · simp [size_madeCells]
  · intro i h1 h2
    simp [madeCells, Value.cells, Nat.mod_one]

theorem row_of_made {w : World} {base g n : Nat} (h : w.ownsRow base 5 1 (.slice (some ⟨g, 0, none⟩) n n) n (madeCells (Value.cells (.int .u8 0)) (n * 1)).toList) : Row8 w g (List.replicate n 0) := by
  obtain ⟨hl, h | ⟨g', cap, cur, hv, hb, hh, h1, h2, h3, h4⟩⟩ := h
  · simp at h
  · simp at hv
    obtain ⟨rfl, rfl⟩ := hv
    unfold Row8
    rw [hh]
    have e : cur.toList = (madeCells (Value.cells (.int .u8 0)) (n * 1)).toList := by
      rw [← h4, List.take_of_length_le (by simp [h3])]
    have e2 : cur = madeCells (Value.cells (.int .u8 0)) (n * 1) := Array.toList_inj.1 e
    rw [e2, made8]

theorem below_grown {w w' : World} (h : w.grownBy w' none) : Below w.heap.size w w' := (Below.refl _ _).grown h (Nat.le_refl _) (fun k hk => by cases hk)

def mok (n1 n2 n3 : Nat) : Bool := decide (n1 ≤ 16384 ∧ n2 ≤ 16384 ∧ n3 ≤ 5000)

set_option maxHeartbeats 400000 in
theorem sMemOk_any (a1 a2 a3 : Option Addr) (n1 c1 n2 c2 n3 c3 : Nat) (w : World) :
    Calls Tryz.prog 18 #[.agg #[.slice a1 n1 c1, .slice a2 n2 c2, .slice a3 n3 c3]] w fun e w' => e = .returned (.bool (mok n1 n2 n3)) ∧ Below w.heap.size w w' := by
  by_cases k1 : (n1 : Int) ≤ 16384
  all_goals by_cases k2 : (n2 : Int) ≤ 16384
  all_goals by_cases k3 : (n3 : Int) ≤ 5000
  all_goals
    obtain ⟨r, hr⟩ : ∃ r, r = mok n1 n2 n3 := ⟨_, rfl⟩
    have HR : Hid (r = mok n1 n2 n3) := hr
    rw [← hr]
    clear hr
    go_enter Tryz.func18, Tryz.ntmps18
    go_wp2
    go_ret
    refine ⟨ret_bool ?_, (Below.refl _ _).alloc (Nat.le_refl _) _⟩
    rw [HR.out]
    unfold mok
    simp
    try omega

set_option maxHeartbeats 400000 in
theorem iMemOk_any (a1 a2 a3 : Option Addr) (n1 c1 n2 c2 n3 c3 : Nat) (w : World) :
    Calls Tryz.prog 29 #[.agg #[.slice a1 n1 c1, .slice a2 n2 c2, .slice a3 n3 c3]] w fun e w' => e = .returned (.bool (mok n1 n2 n3)) ∧ Below w.heap.size w w' := by
  by_cases k1 : (n1 : Int) ≤ 16384
  all_goals by_cases k2 : (n2 : Int) ≤ 16384
  all_goals by_cases k3 : (n3 : Int) ≤ 5000
  all_goals
    obtain ⟨r, hr⟩ : ∃ r, r = mok n1 n2 n3 := ⟨_, rfl⟩
    have HR : Hid (r = mok n1 n2 n3) := hr
    rw [← hr]
    clear hr
    go_enter Tryz.func29, Tryz.ntmps29
    go_wp2
    go_ret
    refine ⟨ret_bool ?_, (Below.refl _ _).alloc (Nat.le_refl _) _⟩
    rw [HR.out]
    unfold mok
    simp
    try omega
theorem Blk.three {w : World} {g : Nat} {a b c : Value} {t : TypeId} (h : Blk w g #[a, b, c] t) :
    w.cell? ⟨g, 0, none⟩ = some a ∧ w.cell? ⟨g, 1, none⟩ = some b ∧ w.cell? ⟨g, 2, none⟩ = some c ∧ ∀ i, w.frozen? ⟨g, i, none⟩ = false :=
  ⟨by rw [h.cell]; rfl, by rw [h.cell]; rfl, by rw [h.cell]; rfl, fun i => h.frozen i⟩

end Go.Proofs.YtaillnegkfagfacGreat
