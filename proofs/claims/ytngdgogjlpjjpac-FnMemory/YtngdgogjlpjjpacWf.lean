import Derived.Test.YtngdgogjlpjjpacWr4
namespace Go.Proofs.Ytngdgogjlpjjpac
open Go.RowKit
set_option linter.unusedVariables false

set_option maxHeartbeats 1000000 in
theorem portFault_full (a1 a2 a3 : Option Addr) (n1 c1 n2 c2 n3 c3 : Nat) (w : World) (hf : (5000 : Int) ≤ (n3 : Int)) :
    Calls Try.prog 137 #[.agg #[.slice a1 n1 c1, .slice a2 n2 c2, .slice a3 n3 c3]] w fun e w' => e = .returned (.int .i64 4) ∧ Below w.heap.size w w' := by
  go_enter Try.func137, Try.ntmps137
  go_wp2
  go_ret
  exact ⟨rfl, (Below.refl _ _).alloc (Nat.le_refl _) _⟩
set_option maxRecDepth 100000 in
set_option maxHeartbeats 1000000 in
theorem portFault_free (a1 a2 a3 : Option Addr) (n1 c1 n2 c2 n3 c3 : Nat) (w : World) (hf : (n3 : Int) < 5000) :
    Calls Try.prog 137 #[.agg #[.slice a1 n1 c1, .slice a2 n2 c2, .slice a3 n3 c3]] w fun e w' => e = .returned (.int .i64 0) ∧ Below w.heap.size w w' := by
  go_enter Try.func137, Try.ntmps137
  go_wp2
  go_ret
  exact ⟨rfl, (Below.refl _ _).alloc (Nat.le_refl _) _⟩

set_option maxHeartbeats 1000000 in
theorem wf_bad (a1 a2 a3 : Option Addr) (n1 c1 n2 c2 n3 c3 : Nat) (p s : Int) (w : World) (h : mok n1 n2 n3 = false ∨ wd s = false) :
    Calls Try.prog 110 #[.agg #[.slice a1 n1 c1, .slice a2 n2 c2, .slice a3 n3 c3], .int .i64 p, .int .i64 s] w fun e w' => e = .returned (.int .i64 2) ∧ Below w.heap.size w w' := by
  have hB0 : Below w.heap.size w (w.alloc (.cells #[.slice a1 n1 c1, .slice a2 n2 c2, .slice a3 n3 c3] 24)) := (Below.refl _ _).alloc (Nat.le_refl _) _
  go_enter Try.func110, Try.ntmps110
  go_wp2_with fail
  refine (acc_bad a1 a2 a3 n1 c1 n2 c2 n3 c3 p s _ h).mono ?_
  rintro e w1 ⟨rfl, hb1⟩
  have k1 := (Blk.new w #[.slice a1 n1 c1, .slice a2 n2 c2, .slice a3 n3 c3] 24).below hb1
  have hB1 := hB0.trans (hb1.mono (by simp))
  obtain ⟨q1, q2, q3, q4⟩ := k1.three
  clear hb1 k1
  clear h
  go_wp2
  go_ret
  exact ⟨rfl, hB1⟩

set_option maxHeartbeats 1000000 in
theorem wf_mis4 (a1 a2 a3 : Option Addr) (n1 c1 n2 c2 n3 c3 : Nat) (p : Int) (w : World) (h : mok n1 n2 n3 = true) (hm : (p.tmod 4 != 0) = true) :
    Calls Try.prog 110 #[.agg #[.slice a1 n1 c1, .slice a2 n2 c2, .slice a3 n3 c3], .int .i64 p, .int .i64 4] w fun e w' => e = .returned (.int .i64 1) ∧ Below w.heap.size w w' := by
  have hB0 : Below w.heap.size w (w.alloc (.cells #[.slice a1 n1 c1, .slice a2 n2 c2, .slice a3 n3 c3] 24)) := (Below.refl _ _).alloc (Nat.le_refl _) _
  go_enter Try.func110, Try.ntmps110
  go_wp2_with fail
  refine (acc_mis4 a1 a2 a3 n1 c1 n2 c2 n3 c3 p _ h hm).mono ?_
  rintro e w1 ⟨rfl, hb1⟩
  have k1 := (Blk.new w #[.slice a1 n1 c1, .slice a2 n2 c2, .slice a3 n3 c3] 24).below hb1
  have hB1 := hB0.trans (hb1.mono (by simp))
  obtain ⟨q1, q2, q3, q4⟩ := k1.three
  clear hb1 k1
  go_wp2
  go_ret
  exact ⟨rfl, hB1⟩

set_option maxHeartbeats 1000000 in
theorem wf_full4 (a1 a2 a3 : Option Addr) (n1 c1 n2 c2 n3 c3 : Nat)  (w : World) (h : mok n1 n2 n3 = true) (hf : (5000 : Int) ≤ (n3 : Int)) :
    Calls Try.prog 110 #[.agg #[.slice a1 n1 c1, .slice a2 n2 c2, .slice a3 n3 c3], .int .i64 131072, .int .i64 4] w fun e w' => e = .returned (.int .i64 4) ∧ Below w.heap.size w w' := by
  have hB0 : Below w.heap.size w (w.alloc (.cells #[.slice a1 n1 c1, .slice a2 n2 c2, .slice a3 n3 c3] 24)) := (Below.refl _ _).alloc (Nat.le_refl _) _
  go_enter Try.func110, Try.ntmps110
  go_wp2_with fail
  refine (acc_ok4 a1 a2 a3 n1 c1 n2 c2 n3 c3 131072 _ h (by decide)).mono ?_
  rintro e w1 ⟨rfl, hb1⟩
  have k1 := (Blk.new w #[.slice a1 n1 c1, .slice a2 n2 c2, .slice a3 n3 c3] 24).below hb1
  have hB1 := hB0.trans (hb1.mono (by simp))
  obtain ⟨q1, q2, q3, q4⟩ := k1.three
  clear hb1 k1
  go_wp2_with fail
  refine (portFault_full a1 a2 a3 n1 c1 n2 c2 n3 c3 _ hf).mono ?_
  rintro e w2 ⟨rfl, hb2⟩
  have hB1 := hB1.trans (hb2.mono hB1.size)
  go_wp2
  go_ret
  exact ⟨rfl, hB1⟩

set_option maxHeartbeats 1000000 in
theorem wf_free4 (a1 a2 a3 : Option Addr) (n1 c1 n2 c2 n3 c3 : Nat)  (w : World) (h : mok n1 n2 n3 = true) (hf : (n3 : Int) < 5000) :
    Calls Try.prog 110 #[.agg #[.slice a1 n1 c1, .slice a2 n2 c2, .slice a3 n3 c3], .int .i64 131072, .int .i64 4] w fun e w' => e = .returned (.int .i64 0) ∧ Below w.heap.size w w' := by
  have hB0 : Below w.heap.size w (w.alloc (.cells #[.slice a1 n1 c1, .slice a2 n2 c2, .slice a3 n3 c3] 24)) := (Below.refl _ _).alloc (Nat.le_refl _) _
  go_enter Try.func110, Try.ntmps110
  go_wp2_with fail
  refine (acc_ok4 a1 a2 a3 n1 c1 n2 c2 n3 c3 131072 _ h (by decide)).mono ?_
  rintro e w1 ⟨rfl, hb1⟩
  have k1 := (Blk.new w #[.slice a1 n1 c1, .slice a2 n2 c2, .slice a3 n3 c3] 24).below hb1
  have hB1 := hB0.trans (hb1.mono (by simp))
  obtain ⟨q1, q2, q3, q4⟩ := k1.three
  clear hb1 k1
  go_wp2_with fail
  refine (portFault_free a1 a2 a3 n1 c1 n2 c2 n3 c3 _ hf).mono ?_
  rintro e w2 ⟨rfl, hb2⟩
  have hB1 := hB1.trans (hb2.mono hB1.size)
  go_wp2
  go_ret
  exact ⟨rfl, hB1⟩

set_option maxHeartbeats 1000000 in
theorem wf_flash4 (a1 a2 a3 : Option Addr) (n1 c1 n2 c2 n3 c3 : Nat) (p : Int) (w : World) (h : mok n1 n2 n3 = true) (hmax : p ≤ 9223372036854775807) (hm : (p.tmod 4 != 0) = false) (hp : (p == 131072) = false) (hi : ins p 4 0 n1 = true) :
    Calls Try.prog 110 #[.agg #[.slice a1 n1 c1, .slice a2 n2 c2, .slice a3 n3 c3], .int .i64 p, .int .i64 4] w fun e w' => e = .returned (.int .i64 3) ∧ Below w.heap.size w w' := by
  have hB0 : Below w.heap.size w (w.alloc (.cells #[.slice a1 n1 c1, .slice a2 n2 c2, .slice a3 n3 c3] 24)) := (Below.refl _ _).alloc (Nat.le_refl _) _
  go_enter Try.func110, Try.ntmps110
  obtain ⟨l1, l2, l3⟩ := mok1 h
  go_wp2_with fail
  refine (acc_ok4 a1 a2 a3 n1 c1 n2 c2 n3 c3 p _ h hm).mono ?_
  rintro e w1 ⟨rfl, hb1⟩
  have k1 := (Blk.new w #[.slice a1 n1 c1, .slice a2 n2 c2, .slice a3 n3 c3] 24).below hb1
  have hB1 := hB0.trans (hb1.mono (by simp))
  obtain ⟨q1, q2, q3, q4⟩ := k1.three
  clear hb1 k1
  go_wp2_with fail
  refine (holds_any a1 n1 c1 _ 4 0 _ (by omega) (by omega) (by omega) (by omega) (by omega) (by omega)).mono ?_
  rw [hi]
  rintro e wx ⟨rfl, rfl⟩
  go_wp2
  go_ret
  exact ⟨rfl, hB1⟩

set_option maxHeartbeats 1000000 in
theorem wf_bus4 (a1 a2 a3 : Option Addr) (n1 c1 n2 c2 n3 c3 : Nat) (p : Int) (w : World) (h : mok n1 n2 n3 = true) (hmax : p ≤ 9223372036854775807) (hm : (p.tmod 4 != 0) = false) (hp : (p == 131072) = false) (hi : ins p 4 0 n1 = false) (hj : ins p 4 65536 n2 = false) :
    Calls Try.prog 110 #[.agg #[.slice a1 n1 c1, .slice a2 n2 c2, .slice a3 n3 c3], .int .i64 p, .int .i64 4] w fun e w' => e = .returned (.int .i64 2) ∧ Below w.heap.size w w' := by
  have hB0 : Below w.heap.size w (w.alloc (.cells #[.slice a1 n1 c1, .slice a2 n2 c2, .slice a3 n3 c3] 24)) := (Below.refl _ _).alloc (Nat.le_refl _) _
  go_enter Try.func110, Try.ntmps110
  obtain ⟨l1, l2, l3⟩ := mok1 h
  go_wp2_with fail
  refine (acc_ok4 a1 a2 a3 n1 c1 n2 c2 n3 c3 p _ h hm).mono ?_
  rintro e w1 ⟨rfl, hb1⟩
  have k1 := (Blk.new w #[.slice a1 n1 c1, .slice a2 n2 c2, .slice a3 n3 c3] 24).below hb1
  have hB1 := hB0.trans (hb1.mono (by simp))
  obtain ⟨q1, q2, q3, q4⟩ := k1.three
  clear hb1 k1
  go_wp2_with fail
  refine (holds_any a1 n1 c1 _ 4 0 _ (by omega) (by omega) (by omega) (by omega) (by omega) (by omega)).mono ?_
  rw [hi]
  rintro e wx ⟨rfl, rfl⟩
  go_wp2_with fail
  refine (holds_any a2 n2 c2 _ 4 65536 _ (by omega) (by omega) (by omega) (by omega) (by omega) (by omega)).mono ?_
  rw [hj]
  rintro e wx ⟨rfl, rfl⟩
  go_wp2
  go_ret
  exact ⟨rfl, hB1⟩

set_option maxHeartbeats 1000000 in
theorem wf_ram4 (a1 a2 a3 : Option Addr) (n1 c1 n2 c2 n3 c3 : Nat) (p : Int) (w : World) (h : mok n1 n2 n3 = true) (hmax : p ≤ 9223372036854775807) (hm : (p.tmod 4 != 0) = false) (hp : (p == 131072) = false) (hi : ins p 4 0 n1 = false) (hj : ins p 4 65536 n2 = true) :
    Calls Try.prog 110 #[.agg #[.slice a1 n1 c1, .slice a2 n2 c2, .slice a3 n3 c3], .int .i64 p, .int .i64 4] w fun e w' => e = .returned (.int .i64 0) ∧ Below w.heap.size w w' := by
  have hB0 : Below w.heap.size w (w.alloc (.cells #[.slice a1 n1 c1, .slice a2 n2 c2, .slice a3 n3 c3] 24)) := (Below.refl _ _).alloc (Nat.le_refl _) _
  go_enter Try.func110, Try.ntmps110
  obtain ⟨l1, l2, l3⟩ := mok1 h
  go_wp2_with fail
  refine (acc_ok4 a1 a2 a3 n1 c1 n2 c2 n3 c3 p _ h hm).mono ?_
  rintro e w1 ⟨rfl, hb1⟩
  have k1 := (Blk.new w #[.slice a1 n1 c1, .slice a2 n2 c2, .slice a3 n3 c3] 24).below hb1
  have hB1 := hB0.trans (hb1.mono (by simp))
  obtain ⟨q1, q2, q3, q4⟩ := k1.three
  clear hb1 k1
  go_wp2_with fail
  refine (holds_any a1 n1 c1 _ 4 0 _ (by omega) (by omega) (by omega) (by omega) (by omega) (by omega)).mono ?_
  rw [hi]
  rintro e wx ⟨rfl, rfl⟩
  go_wp2_with fail
  refine (holds_any a2 n2 c2 _ 4 65536 _ (by omega) (by omega) (by omega) (by omega) (by omega) (by omega)).mono ?_
  rw [hj]
  rintro e wx ⟨rfl, rfl⟩
  go_wp2
  go_ret
  exact ⟨rfl, hB1⟩

set_option maxHeartbeats 1000000 in
theorem wf_mis2 (a1 a2 a3 : Option Addr) (n1 c1 n2 c2 n3 c3 : Nat) (p : Int) (w : World) (h : mok n1 n2 n3 = true) (hm : (p.tmod 2 != 0) = true) :
    Calls Try.prog 110 #[.agg #[.slice a1 n1 c1, .slice a2 n2 c2, .slice a3 n3 c3], .int .i64 p, .int .i64 2] w fun e w' => e = .returned (.int .i64 1) ∧ Below w.heap.size w w' := by
  have hB0 : Below w.heap.size w (w.alloc (.cells #[.slice a1 n1 c1, .slice a2 n2 c2, .slice a3 n3 c3] 24)) := (Below.refl _ _).alloc (Nat.le_refl _) _
  go_enter Try.func110, Try.ntmps110
  go_wp2_with fail
  refine (acc_mis2 a1 a2 a3 n1 c1 n2 c2 n3 c3 p _ h hm).mono ?_
  rintro e w1 ⟨rfl, hb1⟩
  have k1 := (Blk.new w #[.slice a1 n1 c1, .slice a2 n2 c2, .slice a3 n3 c3] 24).below hb1
  have hB1 := hB0.trans (hb1.mono (by simp))
  obtain ⟨q1, q2, q3, q4⟩ := k1.three
  clear hb1 k1
  go_wp2
  go_ret
  exact ⟨rfl, hB1⟩

set_option maxHeartbeats 1000000 in
theorem wf_full2 (a1 a2 a3 : Option Addr) (n1 c1 n2 c2 n3 c3 : Nat)  (w : World) (h : mok n1 n2 n3 = true) (hf : (5000 : Int) ≤ (n3 : Int)) :
    Calls Try.prog 110 #[.agg #[.slice a1 n1 c1, .slice a2 n2 c2, .slice a3 n3 c3], .int .i64 131072, .int .i64 2] w fun e w' => e = .returned (.int .i64 4) ∧ Below w.heap.size w w' := by
  have hB0 : Below w.heap.size w (w.alloc (.cells #[.slice a1 n1 c1, .slice a2 n2 c2, .slice a3 n3 c3] 24)) := (Below.refl _ _).alloc (Nat.le_refl _) _
  go_enter Try.func110, Try.ntmps110
  go_wp2_with fail
  refine (acc_ok2 a1 a2 a3 n1 c1 n2 c2 n3 c3 131072 _ h (by decide)).mono ?_
  rintro e w1 ⟨rfl, hb1⟩
  have k1 := (Blk.new w #[.slice a1 n1 c1, .slice a2 n2 c2, .slice a3 n3 c3] 24).below hb1
  have hB1 := hB0.trans (hb1.mono (by simp))
  obtain ⟨q1, q2, q3, q4⟩ := k1.three
  clear hb1 k1
  go_wp2_with fail
  refine (portFault_full a1 a2 a3 n1 c1 n2 c2 n3 c3 _ hf).mono ?_
  rintro e w2 ⟨rfl, hb2⟩
  have hB1 := hB1.trans (hb2.mono hB1.size)
  go_wp2
  go_ret
  exact ⟨rfl, hB1⟩

set_option maxHeartbeats 1000000 in
theorem wf_free2 (a1 a2 a3 : Option Addr) (n1 c1 n2 c2 n3 c3 : Nat)  (w : World) (h : mok n1 n2 n3 = true) (hf : (n3 : Int) < 5000) :
    Calls Try.prog 110 #[.agg #[.slice a1 n1 c1, .slice a2 n2 c2, .slice a3 n3 c3], .int .i64 131072, .int .i64 2] w fun e w' => e = .returned (.int .i64 0) ∧ Below w.heap.size w w' := by
  have hB0 : Below w.heap.size w (w.alloc (.cells #[.slice a1 n1 c1, .slice a2 n2 c2, .slice a3 n3 c3] 24)) := (Below.refl _ _).alloc (Nat.le_refl _) _
  go_enter Try.func110, Try.ntmps110
  go_wp2_with fail
  refine (acc_ok2 a1 a2 a3 n1 c1 n2 c2 n3 c3 131072 _ h (by decide)).mono ?_
  rintro e w1 ⟨rfl, hb1⟩
  have k1 := (Blk.new w #[.slice a1 n1 c1, .slice a2 n2 c2, .slice a3 n3 c3] 24).below hb1
  have hB1 := hB0.trans (hb1.mono (by simp))
  obtain ⟨q1, q2, q3, q4⟩ := k1.three
  clear hb1 k1
  go_wp2_with fail
  refine (portFault_free a1 a2 a3 n1 c1 n2 c2 n3 c3 _ hf).mono ?_
  rintro e w2 ⟨rfl, hb2⟩
  have hB1 := hB1.trans (hb2.mono hB1.size)
  go_wp2
  go_ret
  exact ⟨rfl, hB1⟩

set_option maxHeartbeats 1000000 in
theorem wf_flash2 (a1 a2 a3 : Option Addr) (n1 c1 n2 c2 n3 c3 : Nat) (p : Int) (w : World) (h : mok n1 n2 n3 = true) (hmax : p ≤ 9223372036854775807) (hm : (p.tmod 2 != 0) = false) (hp : (p == 131072) = false) (hi : ins p 2 0 n1 = true) :
    Calls Try.prog 110 #[.agg #[.slice a1 n1 c1, .slice a2 n2 c2, .slice a3 n3 c3], .int .i64 p, .int .i64 2] w fun e w' => e = .returned (.int .i64 3) ∧ Below w.heap.size w w' := by
  have hB0 : Below w.heap.size w (w.alloc (.cells #[.slice a1 n1 c1, .slice a2 n2 c2, .slice a3 n3 c3] 24)) := (Below.refl _ _).alloc (Nat.le_refl _) _
  go_enter Try.func110, Try.ntmps110
  obtain ⟨l1, l2, l3⟩ := mok1 h
  go_wp2_with fail
  refine (acc_ok2 a1 a2 a3 n1 c1 n2 c2 n3 c3 p _ h hm).mono ?_
  rintro e w1 ⟨rfl, hb1⟩
  have k1 := (Blk.new w #[.slice a1 n1 c1, .slice a2 n2 c2, .slice a3 n3 c3] 24).below hb1
  have hB1 := hB0.trans (hb1.mono (by simp))
  obtain ⟨q1, q2, q3, q4⟩ := k1.three
  clear hb1 k1
  go_wp2_with fail
  refine (holds_any a1 n1 c1 _ 2 0 _ (by omega) (by omega) (by omega) (by omega) (by omega) (by omega)).mono ?_
  rw [hi]
  rintro e wx ⟨rfl, rfl⟩
  go_wp2
  go_ret
  exact ⟨rfl, hB1⟩

set_option maxHeartbeats 1000000 in
theorem wf_bus2 (a1 a2 a3 : Option Addr) (n1 c1 n2 c2 n3 c3 : Nat) (p : Int) (w : World) (h : mok n1 n2 n3 = true) (hmax : p ≤ 9223372036854775807) (hm : (p.tmod 2 != 0) = false) (hp : (p == 131072) = false) (hi : ins p 2 0 n1 = false) (hj : ins p 2 65536 n2 = false) :
    Calls Try.prog 110 #[.agg #[.slice a1 n1 c1, .slice a2 n2 c2, .slice a3 n3 c3], .int .i64 p, .int .i64 2] w fun e w' => e = .returned (.int .i64 2) ∧ Below w.heap.size w w' := by
  have hB0 : Below w.heap.size w (w.alloc (.cells #[.slice a1 n1 c1, .slice a2 n2 c2, .slice a3 n3 c3] 24)) := (Below.refl _ _).alloc (Nat.le_refl _) _
  go_enter Try.func110, Try.ntmps110
  obtain ⟨l1, l2, l3⟩ := mok1 h
  go_wp2_with fail
  refine (acc_ok2 a1 a2 a3 n1 c1 n2 c2 n3 c3 p _ h hm).mono ?_
  rintro e w1 ⟨rfl, hb1⟩
  have k1 := (Blk.new w #[.slice a1 n1 c1, .slice a2 n2 c2, .slice a3 n3 c3] 24).below hb1
  have hB1 := hB0.trans (hb1.mono (by simp))
  obtain ⟨q1, q2, q3, q4⟩ := k1.three
  clear hb1 k1
  go_wp2_with fail
  refine (holds_any a1 n1 c1 _ 2 0 _ (by omega) (by omega) (by omega) (by omega) (by omega) (by omega)).mono ?_
  rw [hi]
  rintro e wx ⟨rfl, rfl⟩
  go_wp2_with fail
  refine (holds_any a2 n2 c2 _ 2 65536 _ (by omega) (by omega) (by omega) (by omega) (by omega) (by omega)).mono ?_
  rw [hj]
  rintro e wx ⟨rfl, rfl⟩
  go_wp2
  go_ret
  exact ⟨rfl, hB1⟩

set_option maxHeartbeats 1000000 in
theorem wf_ram2 (a1 a2 a3 : Option Addr) (n1 c1 n2 c2 n3 c3 : Nat) (p : Int) (w : World) (h : mok n1 n2 n3 = true) (hmax : p ≤ 9223372036854775807) (hm : (p.tmod 2 != 0) = false) (hp : (p == 131072) = false) (hi : ins p 2 0 n1 = false) (hj : ins p 2 65536 n2 = true) :
    Calls Try.prog 110 #[.agg #[.slice a1 n1 c1, .slice a2 n2 c2, .slice a3 n3 c3], .int .i64 p, .int .i64 2] w fun e w' => e = .returned (.int .i64 0) ∧ Below w.heap.size w w' := by
  have hB0 : Below w.heap.size w (w.alloc (.cells #[.slice a1 n1 c1, .slice a2 n2 c2, .slice a3 n3 c3] 24)) := (Below.refl _ _).alloc (Nat.le_refl _) _
  go_enter Try.func110, Try.ntmps110
  obtain ⟨l1, l2, l3⟩ := mok1 h
  go_wp2_with fail
  refine (acc_ok2 a1 a2 a3 n1 c1 n2 c2 n3 c3 p _ h hm).mono ?_
  rintro e w1 ⟨rfl, hb1⟩
  have k1 := (Blk.new w #[.slice a1 n1 c1, .slice a2 n2 c2, .slice a3 n3 c3] 24).below hb1
  have hB1 := hB0.trans (hb1.mono (by simp))
  obtain ⟨q1, q2, q3, q4⟩ := k1.three
  clear hb1 k1
  go_wp2_with fail
  refine (holds_any a1 n1 c1 _ 2 0 _ (by omega) (by omega) (by omega) (by omega) (by omega) (by omega)).mono ?_
  rw [hi]
  rintro e wx ⟨rfl, rfl⟩
  go_wp2_with fail
  refine (holds_any a2 n2 c2 _ 2 65536 _ (by omega) (by omega) (by omega) (by omega) (by omega) (by omega)).mono ?_
  rw [hj]
  rintro e wx ⟨rfl, rfl⟩
  go_wp2
  go_ret
  exact ⟨rfl, hB1⟩

set_option maxHeartbeats 1000000 in
theorem wf_full1 (a1 a2 a3 : Option Addr) (n1 c1 n2 c2 n3 c3 : Nat)  (w : World) (h : mok n1 n2 n3 = true) (hf : (5000 : Int) ≤ (n3 : Int)) :
    Calls Try.prog 110 #[.agg #[.slice a1 n1 c1, .slice a2 n2 c2, .slice a3 n3 c3], .int .i64 131072, .int .i64 1] w fun e w' => e = .returned (.int .i64 4) ∧ Below w.heap.size w w' := by
  have hB0 : Below w.heap.size w (w.alloc (.cells #[.slice a1 n1 c1, .slice a2 n2 c2, .slice a3 n3 c3] 24)) := (Below.refl _ _).alloc (Nat.le_refl _) _
  go_enter Try.func110, Try.ntmps110
  go_wp2_with fail
  refine (acc_ok1 a1 a2 a3 n1 c1 n2 c2 n3 c3 131072 _ h (by decide)).mono ?_
  rintro e w1 ⟨rfl, hb1⟩
  have k1 := (Blk.new w #[.slice a1 n1 c1, .slice a2 n2 c2, .slice a3 n3 c3] 24).below hb1
  have hB1 := hB0.trans (hb1.mono (by simp))
  obtain ⟨q1, q2, q3, q4⟩ := k1.three
  clear hb1 k1
  go_wp2_with fail
  refine (portFault_full a1 a2 a3 n1 c1 n2 c2 n3 c3 _ hf).mono ?_
  rintro e w2 ⟨rfl, hb2⟩
  have hB1 := hB1.trans (hb2.mono hB1.size)
  go_wp2
  go_ret
  exact ⟨rfl, hB1⟩

set_option maxHeartbeats 1000000 in
theorem wf_free1 (a1 a2 a3 : Option Addr) (n1 c1 n2 c2 n3 c3 : Nat)  (w : World) (h : mok n1 n2 n3 = true) (hf : (n3 : Int) < 5000) :
    Calls Try.prog 110 #[.agg #[.slice a1 n1 c1, .slice a2 n2 c2, .slice a3 n3 c3], .int .i64 131072, .int .i64 1] w fun e w' => e = .returned (.int .i64 0) ∧ Below w.heap.size w w' := by
  have hB0 : Below w.heap.size w (w.alloc (.cells #[.slice a1 n1 c1, .slice a2 n2 c2, .slice a3 n3 c3] 24)) := (Below.refl _ _).alloc (Nat.le_refl _) _
  go_enter Try.func110, Try.ntmps110
  go_wp2_with fail
  refine (acc_ok1 a1 a2 a3 n1 c1 n2 c2 n3 c3 131072 _ h (by decide)).mono ?_
  rintro e w1 ⟨rfl, hb1⟩
  have k1 := (Blk.new w #[.slice a1 n1 c1, .slice a2 n2 c2, .slice a3 n3 c3] 24).below hb1
  have hB1 := hB0.trans (hb1.mono (by simp))
  obtain ⟨q1, q2, q3, q4⟩ := k1.three
  clear hb1 k1
  go_wp2_with fail
  refine (portFault_free a1 a2 a3 n1 c1 n2 c2 n3 c3 _ hf).mono ?_
  rintro e w2 ⟨rfl, hb2⟩
  have hB1 := hB1.trans (hb2.mono hB1.size)
  go_wp2
  go_ret
  exact ⟨rfl, hB1⟩

set_option maxHeartbeats 1000000 in
theorem wf_flash1 (a1 a2 a3 : Option Addr) (n1 c1 n2 c2 n3 c3 : Nat) (p : Int) (w : World) (h : mok n1 n2 n3 = true) (hmax : p ≤ 9223372036854775807) (hm : (p.tmod 1 != 0) = false) (hp : (p == 131072) = false) (hi : ins p 1 0 n1 = true) :
    Calls Try.prog 110 #[.agg #[.slice a1 n1 c1, .slice a2 n2 c2, .slice a3 n3 c3], .int .i64 p, .int .i64 1] w fun e w' => e = .returned (.int .i64 3) ∧ Below w.heap.size w w' := by
  have hB0 : Below w.heap.size w (w.alloc (.cells #[.slice a1 n1 c1, .slice a2 n2 c2, .slice a3 n3 c3] 24)) := (Below.refl _ _).alloc (Nat.le_refl _) _
  go_enter Try.func110, Try.ntmps110
  obtain ⟨l1, l2, l3⟩ := mok1 h
  go_wp2_with fail
  refine (acc_ok1 a1 a2 a3 n1 c1 n2 c2 n3 c3 p _ h hm).mono ?_
  rintro e w1 ⟨rfl, hb1⟩
  have k1 := (Blk.new w #[.slice a1 n1 c1, .slice a2 n2 c2, .slice a3 n3 c3] 24).below hb1
  have hB1 := hB0.trans (hb1.mono (by simp))
  obtain ⟨q1, q2, q3, q4⟩ := k1.three
  clear hb1 k1
  go_wp2_with fail
  refine (holds_any a1 n1 c1 _ 1 0 _ (by omega) (by omega) (by omega) (by omega) (by omega) (by omega)).mono ?_
  rw [hi]
  rintro e wx ⟨rfl, rfl⟩
  go_wp2
  go_ret
  exact ⟨rfl, hB1⟩

set_option maxHeartbeats 1000000 in
theorem wf_bus1 (a1 a2 a3 : Option Addr) (n1 c1 n2 c2 n3 c3 : Nat) (p : Int) (w : World) (h : mok n1 n2 n3 = true) (hmax : p ≤ 9223372036854775807) (hm : (p.tmod 1 != 0) = false) (hp : (p == 131072) = false) (hi : ins p 1 0 n1 = false) (hj : ins p 1 65536 n2 = false) :
    Calls Try.prog 110 #[.agg #[.slice a1 n1 c1, .slice a2 n2 c2, .slice a3 n3 c3], .int .i64 p, .int .i64 1] w fun e w' => e = .returned (.int .i64 2) ∧ Below w.heap.size w w' := by
  have hB0 : Below w.heap.size w (w.alloc (.cells #[.slice a1 n1 c1, .slice a2 n2 c2, .slice a3 n3 c3] 24)) := (Below.refl _ _).alloc (Nat.le_refl _) _
  go_enter Try.func110, Try.ntmps110
  obtain ⟨l1, l2, l3⟩ := mok1 h
  go_wp2_with fail
  refine (acc_ok1 a1 a2 a3 n1 c1 n2 c2 n3 c3 p _ h hm).mono ?_
  rintro e w1 ⟨rfl, hb1⟩
  have k1 := (Blk.new w #[.slice a1 n1 c1, .slice a2 n2 c2, .slice a3 n3 c3] 24).below hb1
  have hB1 := hB0.trans (hb1.mono (by simp))
  obtain ⟨q1, q2, q3, q4⟩ := k1.three
  clear hb1 k1
  go_wp2_with fail
  refine (holds_any a1 n1 c1 _ 1 0 _ (by omega) (by omega) (by omega) (by omega) (by omega) (by omega)).mono ?_
  rw [hi]
  rintro e wx ⟨rfl, rfl⟩
  go_wp2_with fail
  refine (holds_any a2 n2 c2 _ 1 65536 _ (by omega) (by omega) (by omega) (by omega) (by omega) (by omega)).mono ?_
  rw [hj]
  rintro e wx ⟨rfl, rfl⟩
  go_wp2
  go_ret
  exact ⟨rfl, hB1⟩

set_option maxHeartbeats 1000000 in
theorem wf_ram1 (a1 a2 a3 : Option Addr) (n1 c1 n2 c2 n3 c3 : Nat) (p : Int) (w : World) (h : mok n1 n2 n3 = true) (hmax : p ≤ 9223372036854775807) (hm : (p.tmod 1 != 0) = false) (hp : (p == 131072) = false) (hi : ins p 1 0 n1 = false) (hj : ins p 1 65536 n2 = true) :
    Calls Try.prog 110 #[.agg #[.slice a1 n1 c1, .slice a2 n2 c2, .slice a3 n3 c3], .int .i64 p, .int .i64 1] w fun e w' => e = .returned (.int .i64 0) ∧ Below w.heap.size w w' := by
  have hB0 : Below w.heap.size w (w.alloc (.cells #[.slice a1 n1 c1, .slice a2 n2 c2, .slice a3 n3 c3] 24)) := (Below.refl _ _).alloc (Nat.le_refl _) _
  go_enter Try.func110, Try.ntmps110
  obtain ⟨l1, l2, l3⟩ := mok1 h
  go_wp2_with fail
  refine (acc_ok1 a1 a2 a3 n1 c1 n2 c2 n3 c3 p _ h hm).mono ?_
  rintro e w1 ⟨rfl, hb1⟩
  have k1 := (Blk.new w #[.slice a1 n1 c1, .slice a2 n2 c2, .slice a3 n3 c3] 24).below hb1
  have hB1 := hB0.trans (hb1.mono (by simp))
  obtain ⟨q1, q2, q3, q4⟩ := k1.three
  clear hb1 k1
  go_wp2_with fail
  refine (holds_any a1 n1 c1 _ 1 0 _ (by omega) (by omega) (by omega) (by omega) (by omega) (by omega)).mono ?_
  rw [hi]
  rintro e wx ⟨rfl, rfl⟩
  go_wp2_with fail
  refine (holds_any a2 n2 c2 _ 1 65536 _ (by omega) (by omega) (by omega) (by omega) (by omega) (by omega)).mono ?_
  rw [hj]
  rintro e wx ⟨rfl, rfl⟩
  go_wp2
  go_ret
  exact ⟨rfl, hB1⟩

/-- WHAT writeFault SAYS. -/
def wff (n1 n2 n3 : Nat) (p s : Int) : Int :=
  if mok n1 n2 n3 = true ∧ wd s = true then
    if (p.tmod s != 0) = true then 1
    else if p = 131072 then (if 5000 ≤ n3 then 4 else 0)
      else if ins p s 0 n1 = true then 3
      else if ins p s 65536 n2 = true then 0 else 2
  else 2
theorem wrm_fault (n1 n2 n3 : Nat) (x1 x2 x3 : List Int) (p s v : Int) (h : wff n1 n2 n3 p s ≠ 0) : wrm n1 n2 n3 x1 x2 x3 p s v = (x1, x2, x3, wff n1 n2 n3 p s) := by
  unfold wff at h ⊢
  unfold wrm
  split
  · next h1 =>
    rw [if_pos h1] at h
    split
    · rfl
    · next h2 =>
      rw [if_neg h2] at h
      split
      · next h3 =>
        rw [if_pos h3] at h
        split
        · rfl
        · next h4 => rw [if_neg h4] at h; exact absurd rfl h
      · next h3 =>
        rw [if_neg h3] at h
        split
        · rfl
        · next h4 =>
          rw [if_neg h4] at h
          split
          · next h5 => rw [if_pos h5] at h; exact absurd rfl h
          · rfl
  · rfl
theorem wff_zero {n1 n2 n3 : Nat} {p s : Int} (h : wff n1 n2 n3 p s = 0) : mok n1 n2 n3 = true ∧ wd s = true ∧ (p.tmod s != 0) = false ∧ ((p = 131072 ∧ n3 < 5000) ∨ (p ≠ 131072 ∧ ins p s 0 n1 = false ∧ ins p s 65536 n2 = true)) := by
  unfold wff at h
  split at h
  · next h1 =>
    split at h
    · omega
    · next h2 =>
      split at h
      · next h3 =>
        split at h
        · omega
        · exact ⟨h1.1, h1.2, by simpa using h2, Or.inl ⟨h3, by omega⟩⟩
      · next h3 =>
        split at h
        · omega
        · next h4 =>
          split at h
          · next h5 => exact ⟨h1.1, h1.2, by simpa using h2, Or.inr ⟨h3, by simpa using h4, h5⟩⟩
          · omega
  · omega

theorem writeFault_any (a1 a2 a3 : Option Addr) (n1 c1 n2 c2 n3 c3 : Nat) (p s : Int) (w : World) (hmax : p ≤ 9223372036854775807) :
    Calls Try.prog 110 #[.agg #[.slice a1 n1 c1, .slice a2 n2 c2, .slice a3 n3 c3], .int .i64 p, .int .i64 s] w fun e w' => e = .returned (.int .i64 (wff n1 n2 n3 p s)) ∧ Below w.heap.size w w' := by
  by_cases hb : mok n1 n2 n3 = true ∧ wd s = true
  · have hb' := hb
    obtain ⟨hm, hs⟩ := hb
    obtain ⟨l1, l2, l3⟩ := mok1 hm
    rcases wd_cases hs with rfl | rfl | rfl
    · by_cases ha : (p.tmod 4 != 0) = true
      · rw [show wff n1 n2 n3 p 4 = 1 from by rw [wff, if_pos hb', if_pos ha]]
        exact wf_mis4 a1 a2 a3 n1 c1 n2 c2 n3 c3 p w hm ha
      · have hna := ha
        have ha : (p.tmod 4 != 0) = false := by simpa using ha
        by_cases hp : p = 131072
        · subst hp
          by_cases hf : 5000 ≤ n3
          · rw [show wff n1 n2 n3 131072 4 = 4 from by rw [wff, if_pos hb', if_neg hna, if_pos rfl, if_pos hf]]
            exact wf_full4 a1 a2 a3 n1 c1 n2 c2 n3 c3 w hm (by omega)
          · rw [show wff n1 n2 n3 131072 4 = 0 from by rw [wff, if_pos hb', if_neg hna, if_pos rfl, if_neg hf]]
            exact wf_free4 a1 a2 a3 n1 c1 n2 c2 n3 c3 w hm (by omega)
        · by_cases hi : ins p 4 0 n1 = true
          · rw [show wff n1 n2 n3 p 4 = 3 from by rw [wff, if_pos hb', if_neg hna, if_neg hp, if_pos hi]]
            exact wf_flash4 a1 a2 a3 n1 c1 n2 c2 n3 c3 p w hm hmax ha (by simpa using hp) hi
          · have hi' : ins p 4 0 n1 = false := by simpa using hi
            by_cases hj : ins p 4 65536 n2 = true
            · rw [show wff n1 n2 n3 p 4 = 0 from by rw [wff, if_pos hb', if_neg hna, if_neg hp, if_neg hi, if_pos hj]]
              exact wf_ram4 a1 a2 a3 n1 c1 n2 c2 n3 c3 p w hm hmax ha (by simpa using hp) hi' hj
            · rw [show wff n1 n2 n3 p 4 = 2 from by rw [wff, if_pos hb', if_neg hna, if_neg hp, if_neg hi, if_neg hj]]
              exact wf_bus4 a1 a2 a3 n1 c1 n2 c2 n3 c3 p w hm hmax ha (by simpa using hp) hi' (by simpa using hj)
    · by_cases ha : (p.tmod 2 != 0) = true
      · rw [show wff n1 n2 n3 p 2 = 1 from by rw [wff, if_pos hb', if_pos ha]]
        exact wf_mis2 a1 a2 a3 n1 c1 n2 c2 n3 c3 p w hm ha
      · have hna := ha
        have ha : (p.tmod 2 != 0) = false := by simpa using ha
        by_cases hp : p = 131072
        · subst hp
          by_cases hf : 5000 ≤ n3
          · rw [show wff n1 n2 n3 131072 2 = 4 from by rw [wff, if_pos hb', if_neg hna, if_pos rfl, if_pos hf]]
            exact wf_full2 a1 a2 a3 n1 c1 n2 c2 n3 c3 w hm (by omega)
          · rw [show wff n1 n2 n3 131072 2 = 0 from by rw [wff, if_pos hb', if_neg hna, if_pos rfl, if_neg hf]]
            exact wf_free2 a1 a2 a3 n1 c1 n2 c2 n3 c3 w hm (by omega)
        · by_cases hi : ins p 2 0 n1 = true
          · rw [show wff n1 n2 n3 p 2 = 3 from by rw [wff, if_pos hb', if_neg hna, if_neg hp, if_pos hi]]
            exact wf_flash2 a1 a2 a3 n1 c1 n2 c2 n3 c3 p w hm hmax ha (by simpa using hp) hi
          · have hi' : ins p 2 0 n1 = false := by simpa using hi
            by_cases hj : ins p 2 65536 n2 = true
            · rw [show wff n1 n2 n3 p 2 = 0 from by rw [wff, if_pos hb', if_neg hna, if_neg hp, if_neg hi, if_pos hj]]
              exact wf_ram2 a1 a2 a3 n1 c1 n2 c2 n3 c3 p w hm hmax ha (by simpa using hp) hi' hj
            · rw [show wff n1 n2 n3 p 2 = 2 from by rw [wff, if_pos hb', if_neg hna, if_neg hp, if_neg hi, if_neg hj]]
              exact wf_bus2 a1 a2 a3 n1 c1 n2 c2 n3 c3 p w hm hmax ha (by simpa using hp) hi' (by simpa using hj)
    · by_cases ha : (p.tmod 1 != 0) = true
      · rw [tmod1] at ha
        exact absurd ha (by simp)
      · have hna := ha
        have ha : (p.tmod 1 != 0) = false := by simp
        by_cases hp : p = 131072
        · subst hp
          by_cases hf : 5000 ≤ n3
          · rw [show wff n1 n2 n3 131072 1 = 4 from by rw [wff, if_pos hb', if_neg hna, if_pos rfl, if_pos hf]]
            exact wf_full1 a1 a2 a3 n1 c1 n2 c2 n3 c3 w hm (by omega)
          · rw [show wff n1 n2 n3 131072 1 = 0 from by rw [wff, if_pos hb', if_neg hna, if_pos rfl, if_neg hf]]
            exact wf_free1 a1 a2 a3 n1 c1 n2 c2 n3 c3 w hm (by omega)
        · by_cases hi : ins p 1 0 n1 = true
          · rw [show wff n1 n2 n3 p 1 = 3 from by rw [wff, if_pos hb', if_neg hna, if_neg hp, if_pos hi]]
            exact wf_flash1 a1 a2 a3 n1 c1 n2 c2 n3 c3 p w hm hmax ha (by simpa using hp) hi
          · have hi' : ins p 1 0 n1 = false := by simpa using hi
            by_cases hj : ins p 1 65536 n2 = true
            · rw [show wff n1 n2 n3 p 1 = 0 from by rw [wff, if_pos hb', if_neg hna, if_neg hp, if_neg hi, if_pos hj]]
              exact wf_ram1 a1 a2 a3 n1 c1 n2 c2 n3 c3 p w hm hmax ha (by simpa using hp) hi' hj
            · rw [show wff n1 n2 n3 p 1 = 2 from by rw [wff, if_pos hb', if_neg hna, if_neg hp, if_neg hi, if_neg hj]]
              exact wf_bus1 a1 a2 a3 n1 c1 n2 c2 n3 c3 p w hm hmax ha (by simpa using hp) hi' (by simpa using hj)
  · rw [show wff n1 n2 n3 p s = 2 from by rw [wff, if_neg hb]]
    refine wf_bad a1 a2 a3 n1 c1 n2 c2 n3 c3 p s w ?_
    by_cases hm : mok n1 n2 n3 = true
    · right; by_cases hs : wd s = true
      · exact absurd ⟨hm, hs⟩ hb
      · simpa using hs
    · left; simpa using hm
end Go.Proofs.Ytngdgogjlpjjpac
