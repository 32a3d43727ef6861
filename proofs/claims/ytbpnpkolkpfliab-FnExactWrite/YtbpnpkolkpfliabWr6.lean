import Derived.Test.YtbpnpkolkpfliabWr5
namespace Go.Proofs.Ytbpnpkolkpfliab
open Go.RowKit
set_option linter.unusedVariables false

set_option maxHeartbeats 1000000 in
theorem portFault_full (a1 a2 a3 : Option Addr) (n1 c1 n2 c2 n3 c3 : Nat) (w : World) (hf : (5000 : Int) ≤ (n3 : Int)) :
    Calls Try.prog 75 #[.agg #[.slice a1 n1 c1, .slice a2 n2 c2, .slice a3 n3 c3]] w fun e w' => e = .returned (.int .i64 4) ∧ Below w.heap.size w w' := by
  go_enter Try.func75, Try.ntmps75
  go_wp2
  go_ret
  exact ⟨rfl, (Below.refl _ _).alloc (Nat.le_refl _) _⟩
set_option maxRecDepth 100000 in
set_option maxHeartbeats 1000000 in
theorem portFault_free (a1 a2 a3 : Option Addr) (n1 c1 n2 c2 n3 c3 : Nat) (w : World) (hf : (n3 : Int) < 5000) :
    Calls Try.prog 75 #[.agg #[.slice a1 n1 c1, .slice a2 n2 c2, .slice a3 n3 c3]] w fun e w' => e = .returned (.int .i64 0) ∧ Below w.heap.size w w' := by
  go_enter Try.func75, Try.ntmps75
  go_wp2
  go_ret
  exact ⟨rfl, (Below.refl _ _).alloc (Nat.le_refl _) _⟩

set_option maxHeartbeats 1000000 in
theorem wf_bad (a1 a2 a3 : Option Addr) (n1 c1 n2 c2 n3 c3 : Nat) (p s : Int) (w : World) (h : mok n1 n2 n3 = false ∨ wd s = false) :
    Calls Try.prog 59 #[.agg #[.slice a1 n1 c1, .slice a2 n2 c2, .slice a3 n3 c3], .int .i64 p, .int .i64 s] w fun e w' => e = .returned (.int .i64 2) ∧ Below w.heap.size w w' := by
  have hB0 : Below w.heap.size w (w.alloc (.cells #[.slice a1 n1 c1, .slice a2 n2 c2, .slice a3 n3 c3] 38)) := (Below.refl _ _).alloc (Nat.le_refl _) _
  go_enter Try.func59, Try.ntmps59
  go_wp2_with fail
  refine (acc_bad a1 a2 a3 n1 c1 n2 c2 n3 c3 p s _ h).mono ?_
  rintro e w1 ⟨rfl, hb1⟩
  have k1 := (Blk.new w #[.slice a1 n1 c1, .slice a2 n2 c2, .slice a3 n3 c3] 38).below hb1
  have hB1 := hB0.trans (hb1.mono (by simp))
  obtain ⟨q1, q2, q3, q4⟩ := k1.three
  clear hb1 k1
  clear h
  go_wp2
  go_ret
  exact ⟨rfl, hB1⟩

set_option maxHeartbeats 1000000 in
theorem wf_mis4 (a1 a2 a3 : Option Addr) (n1 c1 n2 c2 n3 c3 : Nat) (p : Int) (w : World) (h : mok n1 n2 n3 = true) (hm : (p.tmod 4 != 0) = true) :
    Calls Try.prog 59 #[.agg #[.slice a1 n1 c1, .slice a2 n2 c2, .slice a3 n3 c3], .int .i64 p, .int .i64 4] w fun e w' => e = .returned (.int .i64 1) ∧ Below w.heap.size w w' := by
  have hB0 : Below w.heap.size w (w.alloc (.cells #[.slice a1 n1 c1, .slice a2 n2 c2, .slice a3 n3 c3] 38)) := (Below.refl _ _).alloc (Nat.le_refl _) _
  go_enter Try.func59, Try.ntmps59
  go_wp2_with fail
  refine (acc_mis4 a1 a2 a3 n1 c1 n2 c2 n3 c3 p _ h hm).mono ?_
  rintro e w1 ⟨rfl, hb1⟩
  have k1 := (Blk.new w #[.slice a1 n1 c1, .slice a2 n2 c2, .slice a3 n3 c3] 38).below hb1
  have hB1 := hB0.trans (hb1.mono (by simp))
  obtain ⟨q1, q2, q3, q4⟩ := k1.three
  clear hb1 k1
  go_wp2
  go_ret
  exact ⟨rfl, hB1⟩

set_option maxHeartbeats 1000000 in
theorem wf_full4 (a1 a2 a3 : Option Addr) (n1 c1 n2 c2 n3 c3 : Nat)  (w : World) (h : mok n1 n2 n3 = true) (hf : (5000 : Int) ≤ (n3 : Int)) :
    Calls Try.prog 59 #[.agg #[.slice a1 n1 c1, .slice a2 n2 c2, .slice a3 n3 c3], .int .i64 131072, .int .i64 4] w fun e w' => e = .returned (.int .i64 4) ∧ Below w.heap.size w w' := by
  have hB0 : Below w.heap.size w (w.alloc (.cells #[.slice a1 n1 c1, .slice a2 n2 c2, .slice a3 n3 c3] 38)) := (Below.refl _ _).alloc (Nat.le_refl _) _
  go_enter Try.func59, Try.ntmps59
  go_wp2_with fail
  refine (acc_ok4 a1 a2 a3 n1 c1 n2 c2 n3 c3 131072 _ h (by decide)).mono ?_
  rintro e w1 ⟨rfl, hb1⟩
  have k1 := (Blk.new w #[.slice a1 n1 c1, .slice a2 n2 c2, .slice a3 n3 c3] 38).below hb1
  have hB1 := hB0.trans (hb1.mono (by simp))
  obtain ⟨q1, q2, q3, q4⟩ := k1.three
  clear hb1 k1
  go_wp2_with fail
  refine (portFault_full a1 a2 a3 n1 c1 n2 c2 n3 c3 _ hf).mono ?_
  rintro e w2 ⟨rfl, hb2⟩
  have hB1 := hB1.trans (hb2.mono hB1.size)
  go_wp2
  go_ret
  exact ⟨rfl, hB1⟩

set_option maxHeartbeats 1000000 in
theorem wf_free4 (a1 a2 a3 : Option Addr) (n1 c1 n2 c2 n3 c3 : Nat)  (w : World) (h : mok n1 n2 n3 = true) (hf : (n3 : Int) < 5000) :
    Calls Try.prog 59 #[.agg #[.slice a1 n1 c1, .slice a2 n2 c2, .slice a3 n3 c3], .int .i64 131072, .int .i64 4] w fun e w' => e = .returned (.int .i64 0) ∧ Below w.heap.size w w' := by
  have hB0 : Below w.heap.size w (w.alloc (.cells #[.slice a1 n1 c1, .slice a2 n2 c2, .slice a3 n3 c3] 38)) := (Below.refl _ _).alloc (Nat.le_refl _) _
  go_enter Try.func59, Try.ntmps59
  go_wp2_with fail
  refine (acc_ok4 a1 a2 a3 n1 c1 n2 c2 n3 c3 131072 _ h (by decide)).mono ?_
  rintro e w1 ⟨rfl, hb1⟩
  have k1 := (Blk.new w #[.slice a1 n1 c1, .slice a2 n2 c2, .slice a3 n3 c3] 38).below hb1
  have hB1 := hB0.trans (hb1.mono (by simp))
  obtain ⟨q1, q2, q3, q4⟩ := k1.three
  clear hb1 k1
  go_wp2_with fail
  refine (portFault_free a1 a2 a3 n1 c1 n2 c2 n3 c3 _ hf).mono ?_
  rintro e w2 ⟨rfl, hb2⟩
  have hB1 := hB1.trans (hb2.mono hB1.size)
  go_wp2
  go_ret
  exact ⟨rfl, hB1⟩

set_option maxHeartbeats 1000000 in
theorem wf_flash4 (a1 a2 a3 : Option Addr) (n1 c1 n2 c2 n3 c3 : Nat) (p : Int) (w : World) (h : mok n1 n2 n3 = true) (hmax : p ≤ 9223372036854775807) (hm : (p.tmod 4 != 0) = false) (hp : (p == 131072) = false) (hi : ins p 4 0 n1 = true) :
    Calls Try.prog 59 #[.agg #[.slice a1 n1 c1, .slice a2 n2 c2, .slice a3 n3 c3], .int .i64 p, .int .i64 4] w fun e w' => e = .returned (.int .i64 3) ∧ Below w.heap.size w w' := by
  have hB0 : Below w.heap.size w (w.alloc (.cells #[.slice a1 n1 c1, .slice a2 n2 c2, .slice a3 n3 c3] 38)) := (Below.refl _ _).alloc (Nat.le_refl _) _
  go_enter Try.func59, Try.ntmps59
  obtain ⟨l1, l2, l3⟩ := mok1 h
  go_wp2_with fail
  refine (acc_ok4 a1 a2 a3 n1 c1 n2 c2 n3 c3 p _ h hm).mono ?_
  rintro e w1 ⟨rfl, hb1⟩
  have k1 := (Blk.new w #[.slice a1 n1 c1, .slice a2 n2 c2, .slice a3 n3 c3] 38).below hb1
  have hB1 := hB0.trans (hb1.mono (by simp))
  obtain ⟨q1, q2, q3, q4⟩ := k1.three
  clear hb1 k1
  go_wp2_with fail
  refine (holds_any a1 n1 c1 _ 4 0 _ (by omega) (by omega) (by omega) (by omega) (by omega) (by omega)).mono ?_
  rw [hi]
  rintro e wx ⟨rfl, rfl⟩
  go_wp2
  go_ret
  exact ⟨rfl, hB1⟩

set_option maxHeartbeats 1000000 in
theorem wf_bus4 (a1 a2 a3 : Option Addr) (n1 c1 n2 c2 n3 c3 : Nat) (p : Int) (w : World) (h : mok n1 n2 n3 = true) (hmax : p ≤ 9223372036854775807) (hm : (p.tmod 4 != 0) = false) (hp : (p == 131072) = false) (hi : ins p 4 0 n1 = false) (hj : ins p 4 65536 n2 = false) :
    Calls Try.prog 59 #[.agg #[.slice a1 n1 c1, .slice a2 n2 c2, .slice a3 n3 c3], .int .i64 p, .int .i64 4] w fun e w' => e = .returned (.int .i64 2) ∧ Below w.heap.size w w' := by
  have hB0 : Below w.heap.size w (w.alloc (.cells #[.slice a1 n1 c1, .slice a2 n2 c2, .slice a3 n3 c3] 38)) := (Below.refl _ _).alloc (Nat.le_refl _) _
  go_enter Try.func59, Try.ntmps59
  obtain ⟨l1, l2, l3⟩ := mok1 h
  go_wp2_with fail
  refine (acc_ok4 a1 a2 a3 n1 c1 n2 c2 n3 c3 p _ h hm).mono ?_
  rintro e w1 ⟨rfl, hb1⟩
  have k1 := (Blk.new w #[.slice a1 n1 c1, .slice a2 n2 c2, .slice a3 n3 c3] 38).below hb1
  have hB1 := hB0.trans (hb1.mono (by simp))
  obtain ⟨q1, q2, q3, q4⟩ := k1.three
  clear hb1 k1
  go_wp2_with fail
  refine (holds_any a1 n1 c1 _ 4 0 _ (by omega) (by omega) (by omega) (by omega) (by omega) (by omega)).mono ?_
  rw [hi]
  rintro e wx ⟨rfl, rfl⟩
  go_wp2_with fail
  refine (holds_any a2 n2 c2 _ 4 65536 _ (by omega) (by omega) (by omega) (by omega) (by omega) (by omega)).mono ?_
  rw [hj]
  rintro e wx ⟨rfl, rfl⟩
  go_wp2
  go_ret
  exact ⟨rfl, hB1⟩

set_option maxHeartbeats 1000000 in
theorem wf_ram4 (a1 a2 a3 : Option Addr) (n1 c1 n2 c2 n3 c3 : Nat) (p : Int) (w : World) (h : mok n1 n2 n3 = true) (hmax : p ≤ 9223372036854775807) (hm : (p.tmod 4 != 0) = false) (hp : (p == 131072) = false) (hi : ins p 4 0 n1 = false) (hj : ins p 4 65536 n2 = true) :
    Calls Try.prog 59 #[.agg #[.slice a1 n1 c1, .slice a2 n2 c2, .slice a3 n3 c3], .int .i64 p, .int .i64 4] w fun e w' => e = .returned (.int .i64 0) ∧ Below w.heap.size w w' := by
  have hB0 : Below w.heap.size w (w.alloc (.cells #[.slice a1 n1 c1, .slice a2 n2 c2, .slice a3 n3 c3] 38)) := (Below.refl _ _).alloc (Nat.le_refl _) _
  go_enter Try.func59, Try.ntmps59
  obtain ⟨l1, l2, l3⟩ := mok1 h
  go_wp2_with fail
  refine (acc_ok4 a1 a2 a3 n1 c1 n2 c2 n3 c3 p _ h hm).mono ?_
  rintro e w1 ⟨rfl, hb1⟩
  have k1 := (Blk.new w #[.slice a1 n1 c1, .slice a2 n2 c2, .slice a3 n3 c3] 38).below hb1
  have hB1 := hB0.trans (hb1.mono (by simp))
  obtain ⟨q1, q2, q3, q4⟩ := k1.three
  clear hb1 k1
  go_wp2_with fail
  refine (holds_any a1 n1 c1 _ 4 0 _ (by omega) (by omega) (by omega) (by omega) (by omega) (by omega)).mono ?_
  rw [hi]
  rintro e wx ⟨rfl, rfl⟩
  go_wp2_with fail
  refine (holds_any a2 n2 c2 _ 4 65536 _ (by omega) (by omega) (by omega) (by omega) (by omega) (by omega)).mono ?_
  rw [hj]
  rintro e wx ⟨rfl, rfl⟩
  go_wp2
  go_ret
  exact ⟨rfl, hB1⟩

set_option maxHeartbeats 1000000 in
theorem wf_mis2 (a1 a2 a3 : Option Addr) (n1 c1 n2 c2 n3 c3 : Nat) (p : Int) (w : World) (h : mok n1 n2 n3 = true) (hm : (p.tmod 2 != 0) = true) :
    Calls Try.prog 59 #[.agg #[.slice a1 n1 c1, .slice a2 n2 c2, .slice a3 n3 c3], .int .i64 p, .int .i64 2] w fun e w' => e = .returned (.int .i64 1) ∧ Below w.heap.size w w' := by
  have hB0 : Below w.heap.size w (w.alloc (.cells #[.slice a1 n1 c1, .slice a2 n2 c2, .slice a3 n3 c3] 38)) := (Below.refl _ _).alloc (Nat.le_refl _) _
  go_enter Try.func59, Try.ntmps59
  go_wp2_with fail
  refine (acc_mis2 a1 a2 a3 n1 c1 n2 c2 n3 c3 p _ h hm).mono ?_
  rintro e w1 ⟨rfl, hb1⟩
  have k1 := (Blk.new w #[.slice a1 n1 c1, .slice a2 n2 c2, .slice a3 n3 c3] 38).below hb1
  have hB1 := hB0.trans (hb1.mono (by simp))
  obtain ⟨q1, q2, q3, q4⟩ := k1.three
  clear hb1 k1
  go_wp2
  go_ret
  exact ⟨rfl, hB1⟩

set_option maxHeartbeats 1000000 in
theorem wf_full2 (a1 a2 a3 : Option Addr) (n1 c1 n2 c2 n3 c3 : Nat)  (w : World) (h : mok n1 n2 n3 = true) (hf : (5000 : Int) ≤ (n3 : Int)) :
    Calls Try.prog 59 #[.agg #[.slice a1 n1 c1, .slice a2 n2 c2, .slice a3 n3 c3], .int .i64 131072, .int .i64 2] w fun e w' => e = .returned (.int .i64 4) ∧ Below w.heap.size w w' := by
  have hB0 : Below w.heap.size w (w.alloc (.cells #[.slice a1 n1 c1, .slice a2 n2 c2, .slice a3 n3 c3] 38)) := (Below.refl _ _).alloc (Nat.le_refl _) _
  go_enter Try.func59, Try.ntmps59
  go_wp2_with fail
  refine (acc_ok2 a1 a2 a3 n1 c1 n2 c2 n3 c3 131072 _ h (by decide)).mono ?_
  rintro e w1 ⟨rfl, hb1⟩
  have k1 := (Blk.new w #[.slice a1 n1 c1, .slice a2 n2 c2, .slice a3 n3 c3] 38).below hb1
  have hB1 := hB0.trans (hb1.mono (by simp))
  obtain ⟨q1, q2, q3, q4⟩ := k1.three
  clear hb1 k1
  go_wp2_with fail
  refine (portFault_full a1 a2 a3 n1 c1 n2 c2 n3 c3 _ hf).mono ?_
  rintro e w2 ⟨rfl, hb2⟩
  have hB1 := hB1.trans (hb2.mono hB1.size)
  go_wp2
  go_ret
  exact ⟨rfl, hB1⟩

set_option maxHeartbeats 1000000 in
theorem wf_free2 (a1 a2 a3 : Option Addr) (n1 c1 n2 c2 n3 c3 : Nat)  (w : World) (h : mok n1 n2 n3 = true) (hf : (n3 : Int) < 5000) :
    Calls Try.prog 59 #[.agg #[.slice a1 n1 c1, .slice a2 n2 c2, .slice a3 n3 c3], .int .i64 131072, .int .i64 2] w fun e w' => e = .returned (.int .i64 0) ∧ Below w.heap.size w w' := by
  have hB0 : Below w.heap.size w (w.alloc (.cells #[.slice a1 n1 c1, .slice a2 n2 c2, .slice a3 n3 c3] 38)) := (Below.refl _ _).alloc (Nat.le_refl _) _
  go_enter Try.func59, Try.ntmps59
  go_wp2_with fail
  refine (acc_ok2 a1 a2 a3 n1 c1 n2 c2 n3 c3 131072 _ h (by decide)).mono ?_
  rintro e w1 ⟨rfl, hb1⟩
  have k1 := (Blk.new w #[.slice a1 n1 c1, .slice a2 n2 c2, .slice a3 n3 c3] 38).below hb1
  have hB1 := hB0.trans (hb1.mono (by simp))
  obtain ⟨q1, q2, q3, q4⟩ := k1.three
  clear hb1 k1
  go_wp2_with fail
  refine (portFault_free a1 a2 a3 n1 c1 n2 c2 n3 c3 _ hf).mono ?_
  rintro e w2 ⟨rfl, hb2⟩
  have hB1 := hB1.trans (hb2.mono hB1.size)
  go_wp2
  go_ret
  exact ⟨rfl, hB1⟩

set_option maxHeartbeats 1000000 in
theorem wf_flash2 (a1 a2 a3 : Option Addr) (n1 c1 n2 c2 n3 c3 : Nat) (p : Int) (w : World) (h : mok n1 n2 n3 = true) (hmax : p ≤ 9223372036854775807) (hm : (p.tmod 2 != 0) = false) (hp : (p == 131072) = false) (hi : ins p 2 0 n1 = true) :
    Calls Try.prog 59 #[.agg #[.slice a1 n1 c1, .slice a2 n2 c2, .slice a3 n3 c3], .int .i64 p, .int .i64 2] w fun e w' => e = .returned (.int .i64 3) ∧ Below w.heap.size w w' := by
  have hB0 : Below w.heap.size w (w.alloc (.cells #[.slice a1 n1 c1, .slice a2 n2 c2, .slice a3 n3 c3] 38)) := (Below.refl _ _).alloc (Nat.le_refl _) _
  go_enter Try.func59, Try.ntmps59
  obtain ⟨l1, l2, l3⟩ := mok1 h
  go_wp2_with fail
  refine (acc_ok2 a1 a2 a3 n1 c1 n2 c2 n3 c3 p _ h hm).mono ?_
  rintro e w1 ⟨rfl, hb1⟩
  have k1 := (Blk.new w #[.slice a1 n1 c1, .slice a2 n2 c2, .slice a3 n3 c3] 38).below hb1
  have hB1 := hB0.trans (hb1.mono (by simp))
  obtain ⟨q1, q2, q3, q4⟩ := k1.three
  clear hb1 k1
  go_wp2_with fail
  refine (holds_any a1 n1 c1 _ 2 0 _ (by omega) (by omega) (by omega) (by omega) (by omega) (by omega)).mono ?_
  rw [hi]
  rintro e wx ⟨rfl, rfl⟩
  go_wp2
  go_ret
  exact ⟨rfl, hB1⟩

set_option maxHeartbeats 1000000 in
theorem wf_bus2 (a1 a2 a3 : Option Addr) (n1 c1 n2 c2 n3 c3 : Nat) (p : Int) (w : World) (h : mok n1 n2 n3 = true) (hmax : p ≤ 9223372036854775807) (hm : (p.tmod 2 != 0) = false) (hp : (p == 131072) = false) (hi : ins p 2 0 n1 = false) (hj : ins p 2 65536 n2 = false) :
    Calls Try.prog 59 #[.agg #[.slice a1 n1 c1, .slice a2 n2 c2, .slice a3 n3 c3], .int .i64 p, .int .i64 2] w fun e w' => e = .returned (.int .i64 2) ∧ Below w.heap.size w w' := by
  have hB0 : Below w.heap.size w (w.alloc (.cells #[.slice a1 n1 c1, .slice a2 n2 c2, .slice a3 n3 c3] 38)) := (Below.refl _ _).alloc (Nat.le_refl _) _
  go_enter Try.func59, Try.ntmps59
  obtain ⟨l1, l2, l3⟩ := mok1 h
  go_wp2_with fail
  refine (acc_ok2 a1 a2 a3 n1 c1 n2 c2 n3 c3 p _ h hm).mono ?_
  rintro e w1 ⟨rfl, hb1⟩
  have k1 := (Blk.new w #[.slice a1 n1 c1, .slice a2 n2 c2, .slice a3 n3 c3] 38).below hb1
  have hB1 := hB0.trans (hb1.mono (by simp))
  obtain ⟨q1, q2, q3, q4⟩ := k1.three
  clear hb1 k1
  go_wp2_with fail
  refine (holds_any a1 n1 c1 _ 2 0 _ (by omega) (by omega) (by omega) (by omega) (by omega) (by omega)).mono ?_
  rw [hi]
  rintro e wx ⟨rfl, rfl⟩
  go_wp2_with fail
  refine (holds_any a2 n2 c2 _ 2 65536 _ (by omega) (by omega) (by omega) (by omega) (by omega) (by omega)).mono ?_
  rw [hj]
  rintro e wx ⟨rfl, rfl⟩
  go_wp2
  go_ret
  exact ⟨rfl, hB1⟩

set_option maxHeartbeats 1000000 in
theorem wf_ram2 (a1 a2 a3 : Option Addr) (n1 c1 n2 c2 n3 c3 : Nat) (p : Int) (w : World) (h : mok n1 n2 n3 = true) (hmax : p ≤ 9223372036854775807) (hm : (p.tmod 2 != 0) = false) (hp : (p == 131072) = false) (hi : ins p 2 0 n1 = false) (hj : ins p 2 65536 n2 = true) :
    Calls Try.prog 59 #[.agg #[.slice a1 n1 c1, .slice a2 n2 c2, .slice a3 n3 c3], .int .i64 p, .int .i64 2] w fun e w' => e = .returned (.int .i64 0) ∧ Below w.heap.size w w' := by
  have hB0 : Below w.heap.size w (w.alloc (.cells #[.slice a1 n1 c1, .slice a2 n2 c2, .slice a3 n3 c3] 38)) := (Below.refl _ _).alloc (Nat.le_refl _) _
  go_enter Try.func59, Try.ntmps59
  obtain ⟨l1, l2, l3⟩ := mok1 h
  go_wp2_with fail
  refine (acc_ok2 a1 a2 a3 n1 c1 n2 c2 n3 c3 p _ h hm).mono ?_
  rintro e w1 ⟨rfl, hb1⟩
  have k1 := (Blk.new w #[.slice a1 n1 c1, .slice a2 n2 c2, .slice a3 n3 c3] 38).below hb1
  have hB1 := hB0.trans (hb1.mono (by simp))
  obtain ⟨q1, q2, q3, q4⟩ := k1.three
  clear hb1 k1
  go_wp2_with fail
  refine (holds_any a1 n1 c1 _ 2 0 _ (by omega) (by omega) (by omega) (by omega) (by omega) (by omega)).mono ?_
  rw [hi]
  rintro e wx ⟨rfl, rfl⟩
  go_wp2_with fail
  refine (holds_any a2 n2 c2 _ 2 65536 _ (by omega) (by omega) (by omega) (by omega) (by omega) (by omega)).mono ?_
  rw [hj]
  rintro e wx ⟨rfl, rfl⟩
  go_wp2
  go_ret
  exact ⟨rfl, hB1⟩

set_option maxHeartbeats 1000000 in
theorem wf_full1 (a1 a2 a3 : Option Addr) (n1 c1 n2 c2 n3 c3 : Nat)  (w : World) (h : mok n1 n2 n3 = true) (hf : (5000 : Int) ≤ (n3 : Int)) :
    Calls Try.prog 59 #[.agg #[.slice a1 n1 c1, .slice a2 n2 c2, .slice a3 n3 c3], .int .i64 131072, .int .i64 1] w fun e w' => e = .returned (.int .i64 4) ∧ Below w.heap.size w w' := by
  have hB0 : Below w.heap.size w (w.alloc (.cells #[.slice a1 n1 c1, .slice a2 n2 c2, .slice a3 n3 c3] 38)) := (Below.refl _ _).alloc (Nat.le_refl _) _
  go_enter Try.func59, Try.ntmps59
  go_wp2_with fail
  refine (acc_ok1 a1 a2 a3 n1 c1 n2 c2 n3 c3 131072 _ h (by decide)).mono ?_
  rintro e w1 ⟨rfl, hb1⟩
  have k1 := (Blk.new w #[.slice a1 n1 c1, .slice a2 n2 c2, .slice a3 n3 c3] 38).below hb1
  have hB1 := hB0.trans (hb1.mono (by simp))
  obtain ⟨q1, q2, q3, q4⟩ := k1.three
  clear hb1 k1
  go_wp2_with fail
  refine (portFault_full a1 a2 a3 n1 c1 n2 c2 n3 c3 _ hf).mono ?_
  rintro e w2 ⟨rfl, hb2⟩
  have hB1 := hB1.trans (hb2.mono hB1.size)
  go_wp2
  go_ret
  exact ⟨rfl, hB1⟩

set_option maxHeartbeats 1000000 in
theorem wf_free1 (a1 a2 a3 : Option Addr) (n1 c1 n2 c2 n3 c3 : Nat)  (w : World) (h : mok n1 n2 n3 = true) (hf : (n3 : Int) < 5000) :
    Calls Try.prog 59 #[.agg #[.slice a1 n1 c1, .slice a2 n2 c2, .slice a3 n3 c3], .int .i64 131072, .int .i64 1] w fun e w' => e = .returned (.int .i64 0) ∧ Below w.heap.size w w' := by
  have hB0 : Below w.heap.size w (w.alloc (.cells #[.slice a1 n1 c1, .slice a2 n2 c2, .slice a3 n3 c3] 38)) := (Below.refl _ _).alloc (Nat.le_refl _) _
  go_enter Try.func59, Try.ntmps59
  go_wp2_with fail
  refine (acc_ok1 a1 a2 a3 n1 c1 n2 c2 n3 c3 131072 _ h (by decide)).mono ?_
  rintro e w1 ⟨rfl, hb1⟩
  have k1 := (Blk.new w #[.slice a1 n1 c1, .slice a2 n2 c2, .slice a3 n3 c3] 38).below hb1
  have hB1 := hB0.trans (hb1.mono (by simp))
  obtain ⟨q1, q2, q3, q4⟩ := k1.three
  clear hb1 k1
  go_wp2_with fail
  refine (portFault_free a1 a2 a3 n1 c1 n2 c2 n3 c3 _ hf).mono ?_
  rintro e w2 ⟨rfl, hb2⟩
  have hB1 := hB1.trans (hb2.mono hB1.size)
  go_wp2
  go_ret
  exact ⟨rfl, hB1⟩

set_option maxHeartbeats 1000000 in
theorem wf_flash1 (a1 a2 a3 : Option Addr) (n1 c1 n2 c2 n3 c3 : Nat) (p : Int) (w : World) (h : mok n1 n2 n3 = true) (hmax : p ≤ 9223372036854775807) (hm : (p.tmod 1 != 0) = false) (hp : (p == 131072) = false) (hi : ins p 1 0 n1 = true) :
    Calls Try.prog 59 #[.agg #[.slice a1 n1 c1, .slice a2 n2 c2, .slice a3 n3 c3], .int .i64 p, .int .i64 1] w fun e w' => e = .returned (.int .i64 3) ∧ Below w.heap.size w w' := by
  have hB0 : Below w.heap.size w (w.alloc (.cells #[.slice a1 n1 c1, .slice a2 n2 c2, .slice a3 n3 c3] 38)) := (Below.refl _ _).alloc (Nat.le_refl _) _
  go_enter Try.func59, Try.ntmps59
  obtain ⟨l1, l2, l3⟩ := mok1 h
  go_wp2_with fail
  refine (acc_ok1 a1 a2 a3 n1 c1 n2 c2 n3 c3 p _ h hm).mono ?_
  rintro e w1 ⟨rfl, hb1⟩
  have k1 := (Blk.new w #[.slice a1 n1 c1, .slice a2 n2 c2, .slice a3 n3 c3] 38).below hb1
  have hB1 := hB0.trans (hb1.mono (by simp))
  obtain ⟨q1, q2, q3, q4⟩ := k1.three
  clear hb1 k1
  go_wp2_with fail
  refine (holds_any a1 n1 c1 _ 1 0 _ (by omega) (by omega) (by omega) (by omega) (by omega) (by omega)).mono ?_
  rw [hi]
  rintro e wx ⟨rfl, rfl⟩
  go_wp2
  go_ret
  exact ⟨rfl, hB1⟩

set_option maxHeartbeats 1000000 in
theorem wf_bus1 (a1 a2 a3 : Option Addr) (n1 c1 n2 c2 n3 c3 : Nat) (p : Int) (w : World) (h : mok n1 n2 n3 = true) (hmax : p ≤ 9223372036854775807) (hm : (p.tmod 1 != 0) = false) (hp : (p == 131072) = false) (hi : ins p 1 0 n1 = false) (hj : ins p 1 65536 n2 = false) :
    Calls Try.prog 59 #[.agg #[.slice a1 n1 c1, .slice a2 n2 c2, .slice a3 n3 c3], .int .i64 p, .int .i64 1] w fun e w' => e = .returned (.int .i64 2) ∧ Below w.heap.size w w' := by
  have hB0 : Below w.heap.size w (w.alloc (.cells #[.slice a1 n1 c1, .slice a2 n2 c2, .slice a3 n3 c3] 38)) := (Below.refl _ _).alloc (Nat.le_refl _) _
  go_enter Try.func59, Try.ntmps59
  obtain ⟨l1, l2, l3⟩ := mok1 h
  go_wp2_with fail
  refine (acc_ok1 a1 a2 a3 n1 c1 n2 c2 n3 c3 p _ h hm).mono ?_
  rintro e w1 ⟨rfl, hb1⟩
  have k1 := (Blk.new w #[.slice a1 n1 c1, .slice a2 n2 c2, .slice a3 n3 c3] 38).below hb1
  have hB1 := hB0.trans (hb1.mono (by simp))
  obtain ⟨q1, q2, q3, q4⟩ := k1.three
  clear hb1 k1
  go_wp2_with fail
  refine (holds_any a1 n1 c1 _ 1 0 _ (by omega) (by omega) (by omega) (by omega) (by omega) (by omega)).mono ?_
  rw [hi]
  rintro e wx ⟨rfl, rfl⟩
  go_wp2_with fail
  refine (holds_any a2 n2 c2 _ 1 65536 _ (by omega) (by omega) (by omega) (by omega) (by omega) (by omega)).mono ?_
  rw [hj]
  rintro e wx ⟨rfl, rfl⟩
  go_wp2
  go_ret
  exact ⟨rfl, hB1⟩

set_option maxHeartbeats 1000000 in
theorem wf_ram1 (a1 a2 a3 : Option Addr) (n1 c1 n2 c2 n3 c3 : Nat) (p : Int) (w : World) (h : mok n1 n2 n3 = true) (hmax : p ≤ 9223372036854775807) (hm : (p.tmod 1 != 0) = false) (hp : (p == 131072) = false) (hi : ins p 1 0 n1 = false) (hj : ins p 1 65536 n2 = true) :
    Calls Try.prog 59 #[.agg #[.slice a1 n1 c1, .slice a2 n2 c2, .slice a3 n3 c3], .int .i64 p, .int .i64 1] w fun e w' => e = .returned (.int .i64 0) ∧ Below w.heap.size w w' := by
  have hB0 : Below w.heap.size w (w.alloc (.cells #[.slice a1 n1 c1, .slice a2 n2 c2, .slice a3 n3 c3] 38)) := (Below.refl _ _).alloc (Nat.le_refl _) _
  go_enter Try.func59, Try.ntmps59
  obtain ⟨l1, l2, l3⟩ := mok1 h
  go_wp2_with fail
  refine (acc_ok1 a1 a2 a3 n1 c1 n2 c2 n3 c3 p _ h hm).mono ?_
  rintro e w1 ⟨rfl, hb1⟩
  have k1 := (Blk.new w #[.slice a1 n1 c1, .slice a2 n2 c2, .slice a3 n3 c3] 38).below hb1
  have hB1 := hB0.trans (hb1.mono (by simp))
  obtain ⟨q1, q2, q3, q4⟩ := k1.three
  clear hb1 k1
  go_wp2_with fail
  refine (holds_any a1 n1 c1 _ 1 0 _ (by omega) (by omega) (by omega) (by omega) (by omega) (by omega)).mono ?_
  rw [hi]
  rintro e wx ⟨rfl, rfl⟩
  go_wp2_with fail
  refine (holds_any a2 n2 c2 _ 1 65536 _ (by omega) (by omega) (by omega) (by omega) (by omega) (by omega)).mono ?_
  rw [hj]
  rintro e wx ⟨rfl, rfl⟩
  go_wp2
  go_ret
  exact ⟨rfl, hB1⟩

set_option maxHeartbeats 1000000 in
theorem iWrite_bad (b1 o1 b2 o2 b3 o3 n1 c1 n2 c2 n3 c3 : Nat) (x1 x2 x3 : List Int) (p s : Int) (v : Int) (w : World) (h1 : BS w (some ⟨b1, o1, none⟩) n1 c1 x1) (h2 : BS w (some ⟨b2, o2, none⟩) n2 c2 x2) (h3 : BS w (some ⟨b3, o3, none⟩) n3 c3 x3) (hn : n1 + n2 + n3 ≤ 1048576) (hv : -9223372036854775808 ≤ v ∧ v ≤ 9223372036854775807) (h : mok n1 n2 n3 = false ∨ wd s = false) :
    Calls Try.prog 27 #[.agg #[.slice (some ⟨b1, o1, none⟩) n1 c1, .slice (some ⟨b2, o2, none⟩) n2 c2, .slice (some ⟨b3, o3, none⟩) n3 c3], .int .i64 p, .int .i64 s, .int .i64 v] w (WrPost w (x1, x2, x3, 2)) := by
  have hB0 : Below w.heap.size w ((w.alloc (.cells #[.slice (some ⟨b1, o1, none⟩) n1 c1, .slice (some ⟨b2, o2, none⟩) n2 c2, .slice (some ⟨b3, o3, none⟩) n3 c3] 38)).alloc (.cells #[.slice none 0 0, .slice none 0 0, .slice none 0 0] 38)) := ((Below.refl _ _).alloc (Nat.le_refl _) _).alloc (by simp) _
  go_enter Try.func27, Try.ntmps27
  go_wp2_with fail
  refine (copyMem_any b1 o1 b2 o2 b3 o3 n1 c1 n2 c2 n3 c3 x1 x2 x3 _ (h1.below hB0) (h2.below hB0) (h3.below hB0) hn).mono ?_
  rintro e w1 ⟨a1, d1, a2, d2, a3, d3, rfl, hO, hb1⟩
  have H := hold_start (bx := #[.slice (some ⟨b1, o1, none⟩) n1 c1, .slice (some ⟨b2, o2, none⟩) n2 c2, .slice (some ⟨b3, o3, none⟩) n3 c3]) hO hb1
  have hgo := hb1.size
  simp only [World.size_alloc] at hgo
  clear hO hb1
  obtain ⟨q1, q2, q3, q4⟩ := H.box.three
  obtain ⟨q5, q6, q7, q8⟩ := H.res.three
  obtain ⟨q9, q10, q11, q12⟩ := H.out.three
  go_wp2_with fail
  refine (wf_bad (some ⟨b1, o1, none⟩) (some ⟨b2, o2, none⟩) (some ⟨b3, o3, none⟩) n1 c1 n2 c2 n3 c3 p s _ h).mono ?_
  rintro e w2 ⟨rfl, hbx⟩
  have H := H.step hbx
  clear hbx q1 q2 q3 q4 q5 q6 q7 q8 q9 q10 q11 q12
  obtain ⟨q1, q2, q3, q4⟩ := H.box.three
  obtain ⟨q5, q6, q7, q8⟩ := H.res.three
  obtain ⟨q9, q10, q11, q12⟩ := H.out.three
  clear h
  go_wp2
  refine bodyPost_ret (v := .tuple #[.agg #[.slice a1 n1 d1, .slice a2 n2 d2, .slice a3 n3 d3], .int .i64 2]) (by simp [results, Try.results27, go_sem, q5, q6, q7]) rfl ⟨a1, n1, d1, a2, n2, d2, a3, n3, d3, rfl, H.done.1, H.done.2⟩

set_option maxHeartbeats 1000000 in
theorem iWrite_mis4 (b1 o1 b2 o2 b3 o3 n1 c1 n2 c2 n3 c3 : Nat) (x1 x2 x3 : List Int) (p : Int) (v : Int) (w : World) (h1 : BS w (some ⟨b1, o1, none⟩) n1 c1 x1) (h2 : BS w (some ⟨b2, o2, none⟩) n2 c2 x2) (h3 : BS w (some ⟨b3, o3, none⟩) n3 c3 x3) (hn : n1 + n2 + n3 ≤ 1048576) (hv : -9223372036854775808 ≤ v ∧ v ≤ 9223372036854775807) (h : mok n1 n2 n3 = true) (hm : (p.tmod 4 != 0) = true) :
    Calls Try.prog 27 #[.agg #[.slice (some ⟨b1, o1, none⟩) n1 c1, .slice (some ⟨b2, o2, none⟩) n2 c2, .slice (some ⟨b3, o3, none⟩) n3 c3], .int .i64 p, .int .i64 4, .int .i64 v] w (WrPost w (x1, x2, x3, 1)) := by
  have hB0 : Below w.heap.size w ((w.alloc (.cells #[.slice (some ⟨b1, o1, none⟩) n1 c1, .slice (some ⟨b2, o2, none⟩) n2 c2, .slice (some ⟨b3, o3, none⟩) n3 c3] 38)).alloc (.cells #[.slice none 0 0, .slice none 0 0, .slice none 0 0] 38)) := ((Below.refl _ _).alloc (Nat.le_refl _) _).alloc (by simp) _
  go_enter Try.func27, Try.ntmps27
  go_wp2_with fail
  refine (copyMem_any b1 o1 b2 o2 b3 o3 n1 c1 n2 c2 n3 c3 x1 x2 x3 _ (h1.below hB0) (h2.below hB0) (h3.below hB0) hn).mono ?_
  rintro e w1 ⟨a1, d1, a2, d2, a3, d3, rfl, hO, hb1⟩
  have H := hold_start (bx := #[.slice (some ⟨b1, o1, none⟩) n1 c1, .slice (some ⟨b2, o2, none⟩) n2 c2, .slice (some ⟨b3, o3, none⟩) n3 c3]) hO hb1
  have hgo := hb1.size
  simp only [World.size_alloc] at hgo
  clear hO hb1
  obtain ⟨q1, q2, q3, q4⟩ := H.box.three
  obtain ⟨q5, q6, q7, q8⟩ := H.res.three
  obtain ⟨q9, q10, q11, q12⟩ := H.out.three
  go_wp2_with fail
  refine (wf_mis4 (some ⟨b1, o1, none⟩) (some ⟨b2, o2, none⟩) (some ⟨b3, o3, none⟩) n1 c1 n2 c2 n3 c3 p _ h hm).mono ?_
  rintro e w2 ⟨rfl, hbx⟩
  have H := H.step hbx
  clear hbx q1 q2 q3 q4 q5 q6 q7 q8 q9 q10 q11 q12
  obtain ⟨q1, q2, q3, q4⟩ := H.box.three
  obtain ⟨q5, q6, q7, q8⟩ := H.res.three
  obtain ⟨q9, q10, q11, q12⟩ := H.out.three
  go_wp2
  refine bodyPost_ret (v := .tuple #[.agg #[.slice a1 n1 d1, .slice a2 n2 d2, .slice a3 n3 d3], .int .i64 1]) (by simp [results, Try.results27, go_sem, q5, q6, q7]) rfl ⟨a1, n1, d1, a2, n2, d2, a3, n3, d3, rfl, H.done.1, H.done.2⟩

set_option maxHeartbeats 1000000 in
theorem iWrite_full4 (b1 o1 b2 o2 b3 o3 n1 c1 n2 c2 n3 c3 : Nat) (x1 x2 x3 : List Int)  (v : Int) (w : World) (h1 : BS w (some ⟨b1, o1, none⟩) n1 c1 x1) (h2 : BS w (some ⟨b2, o2, none⟩) n2 c2 x2) (h3 : BS w (some ⟨b3, o3, none⟩) n3 c3 x3) (hn : n1 + n2 + n3 ≤ 1048576) (hv : -9223372036854775808 ≤ v ∧ v ≤ 9223372036854775807) (h : mok n1 n2 n3 = true) (hfull : 5000 ≤ n3) :
    Calls Try.prog 27 #[.agg #[.slice (some ⟨b1, o1, none⟩) n1 c1, .slice (some ⟨b2, o2, none⟩) n2 c2, .slice (some ⟨b3, o3, none⟩) n3 c3], .int .i64 131072, .int .i64 4, .int .i64 v] w (WrPost w (x1, x2, x3, 4)) := by
  have hB0 : Below w.heap.size w ((w.alloc (.cells #[.slice (some ⟨b1, o1, none⟩) n1 c1, .slice (some ⟨b2, o2, none⟩) n2 c2, .slice (some ⟨b3, o3, none⟩) n3 c3] 38)).alloc (.cells #[.slice none 0 0, .slice none 0 0, .slice none 0 0] 38)) := ((Below.refl _ _).alloc (Nat.le_refl _) _).alloc (by simp) _
  go_enter Try.func27, Try.ntmps27
  go_wp2_with fail
  refine (copyMem_any b1 o1 b2 o2 b3 o3 n1 c1 n2 c2 n3 c3 x1 x2 x3 _ (h1.below hB0) (h2.below hB0) (h3.below hB0) hn).mono ?_
  rintro e w1 ⟨a1, d1, a2, d2, a3, d3, rfl, hO, hb1⟩
  have H := hold_start (bx := #[.slice (some ⟨b1, o1, none⟩) n1 c1, .slice (some ⟨b2, o2, none⟩) n2 c2, .slice (some ⟨b3, o3, none⟩) n3 c3]) hO hb1
  have hgo := hb1.size
  simp only [World.size_alloc] at hgo
  clear hO hb1
  obtain ⟨q1, q2, q3, q4⟩ := H.box.three
  obtain ⟨q5, q6, q7, q8⟩ := H.res.three
  obtain ⟨q9, q10, q11, q12⟩ := H.out.three
  go_wp2_with fail
  refine (wf_full4 (some ⟨b1, o1, none⟩) (some ⟨b2, o2, none⟩) (some ⟨b3, o3, none⟩) n1 c1 n2 c2 n3 c3 _ h (by omega)).mono ?_
  rintro e w2 ⟨rfl, hbx⟩
  have H := H.step hbx
  clear hbx q1 q2 q3 q4 q5 q6 q7 q8 q9 q10 q11 q12
  obtain ⟨q1, q2, q3, q4⟩ := H.box.three
  obtain ⟨q5, q6, q7, q8⟩ := H.res.three
  obtain ⟨q9, q10, q11, q12⟩ := H.out.three
  go_wp2
  refine bodyPost_ret (v := .tuple #[.agg #[.slice a1 n1 d1, .slice a2 n2 d2, .slice a3 n3 d3], .int .i64 4]) (by simp [results, Try.results27, go_sem, q5, q6, q7]) rfl ⟨a1, n1, d1, a2, n2, d2, a3, n3, d3, rfl, H.done.1, H.done.2⟩

set_option maxHeartbeats 1000000 in
theorem iWrite_flash4 (b1 o1 b2 o2 b3 o3 n1 c1 n2 c2 n3 c3 : Nat) (x1 x2 x3 : List Int) (p : Int) (v : Int) (w : World) (h1 : BS w (some ⟨b1, o1, none⟩) n1 c1 x1) (h2 : BS w (some ⟨b2, o2, none⟩) n2 c2 x2) (h3 : BS w (some ⟨b3, o3, none⟩) n3 c3 x3) (hn : n1 + n2 + n3 ≤ 1048576) (hv : -9223372036854775808 ≤ v ∧ v ≤ 9223372036854775807) (h : mok n1 n2 n3 = true) (hmax : p ≤ 9223372036854775807) (hm : (p.tmod 4 != 0) = false) (hp : (p == 131072) = false) (hi : ins p 4 0 n1 = true) :
    Calls Try.prog 27 #[.agg #[.slice (some ⟨b1, o1, none⟩) n1 c1, .slice (some ⟨b2, o2, none⟩) n2 c2, .slice (some ⟨b3, o3, none⟩) n3 c3], .int .i64 p, .int .i64 4, .int .i64 v] w (WrPost w (x1, x2, x3, 3)) := by
  have hB0 : Below w.heap.size w ((w.alloc (.cells #[.slice (some ⟨b1, o1, none⟩) n1 c1, .slice (some ⟨b2, o2, none⟩) n2 c2, .slice (some ⟨b3, o3, none⟩) n3 c3] 38)).alloc (.cells #[.slice none 0 0, .slice none 0 0, .slice none 0 0] 38)) := ((Below.refl _ _).alloc (Nat.le_refl _) _).alloc (by simp) _
  go_enter Try.func27, Try.ntmps27
  go_wp2_with fail
  refine (copyMem_any b1 o1 b2 o2 b3 o3 n1 c1 n2 c2 n3 c3 x1 x2 x3 _ (h1.below hB0) (h2.below hB0) (h3.below hB0) hn).mono ?_
  rintro e w1 ⟨a1, d1, a2, d2, a3, d3, rfl, hO, hb1⟩
  have H := hold_start (bx := #[.slice (some ⟨b1, o1, none⟩) n1 c1, .slice (some ⟨b2, o2, none⟩) n2 c2, .slice (some ⟨b3, o3, none⟩) n3 c3]) hO hb1
  have hgo := hb1.size
  simp only [World.size_alloc] at hgo
  clear hO hb1
  obtain ⟨q1, q2, q3, q4⟩ := H.box.three
  obtain ⟨q5, q6, q7, q8⟩ := H.res.three
  obtain ⟨q9, q10, q11, q12⟩ := H.out.three
  go_wp2_with fail
  refine (wf_flash4 (some ⟨b1, o1, none⟩) (some ⟨b2, o2, none⟩) (some ⟨b3, o3, none⟩) n1 c1 n2 c2 n3 c3 p _ h hmax hm hp hi).mono ?_
  rintro e w2 ⟨rfl, hbx⟩
  have H := H.step hbx
  clear hbx q1 q2 q3 q4 q5 q6 q7 q8 q9 q10 q11 q12
  obtain ⟨q1, q2, q3, q4⟩ := H.box.three
  obtain ⟨q5, q6, q7, q8⟩ := H.res.three
  obtain ⟨q9, q10, q11, q12⟩ := H.out.three
  go_wp2
  refine bodyPost_ret (v := .tuple #[.agg #[.slice a1 n1 d1, .slice a2 n2 d2, .slice a3 n3 d3], .int .i64 3]) (by simp [results, Try.results27, go_sem, q5, q6, q7]) rfl ⟨a1, n1, d1, a2, n2, d2, a3, n3, d3, rfl, H.done.1, H.done.2⟩

set_option maxHeartbeats 1000000 in
theorem iWrite_bus4 (b1 o1 b2 o2 b3 o3 n1 c1 n2 c2 n3 c3 : Nat) (x1 x2 x3 : List Int) (p : Int) (v : Int) (w : World) (h1 : BS w (some ⟨b1, o1, none⟩) n1 c1 x1) (h2 : BS w (some ⟨b2, o2, none⟩) n2 c2 x2) (h3 : BS w (some ⟨b3, o3, none⟩) n3 c3 x3) (hn : n1 + n2 + n3 ≤ 1048576) (hv : -9223372036854775808 ≤ v ∧ v ≤ 9223372036854775807) (h : mok n1 n2 n3 = true) (hmax : p ≤ 9223372036854775807) (hm : (p.tmod 4 != 0) = false) (hp : (p == 131072) = false) (hi : ins p 4 0 n1 = false) (hj : ins p 4 65536 n2 = false) :
    Calls Try.prog 27 #[.agg #[.slice (some ⟨b1, o1, none⟩) n1 c1, .slice (some ⟨b2, o2, none⟩) n2 c2, .slice (some ⟨b3, o3, none⟩) n3 c3], .int .i64 p, .int .i64 4, .int .i64 v] w (WrPost w (x1, x2, x3, 2)) := by
  have hB0 : Below w.heap.size w ((w.alloc (.cells #[.slice (some ⟨b1, o1, none⟩) n1 c1, .slice (some ⟨b2, o2, none⟩) n2 c2, .slice (some ⟨b3, o3, none⟩) n3 c3] 38)).alloc (.cells #[.slice none 0 0, .slice none 0 0, .slice none 0 0] 38)) := ((Below.refl _ _).alloc (Nat.le_refl _) _).alloc (by simp) _
  go_enter Try.func27, Try.ntmps27
  go_wp2_with fail
  refine (copyMem_any b1 o1 b2 o2 b3 o3 n1 c1 n2 c2 n3 c3 x1 x2 x3 _ (h1.below hB0) (h2.below hB0) (h3.below hB0) hn).mono ?_
  rintro e w1 ⟨a1, d1, a2, d2, a3, d3, rfl, hO, hb1⟩
  have H := hold_start (bx := #[.slice (some ⟨b1, o1, none⟩) n1 c1, .slice (some ⟨b2, o2, none⟩) n2 c2, .slice (some ⟨b3, o3, none⟩) n3 c3]) hO hb1
  have hgo := hb1.size
  simp only [World.size_alloc] at hgo
  clear hO hb1
  obtain ⟨q1, q2, q3, q4⟩ := H.box.three
  obtain ⟨q5, q6, q7, q8⟩ := H.res.three
  obtain ⟨q9, q10, q11, q12⟩ := H.out.three
  go_wp2_with fail
  refine (wf_bus4 (some ⟨b1, o1, none⟩) (some ⟨b2, o2, none⟩) (some ⟨b3, o3, none⟩) n1 c1 n2 c2 n3 c3 p _ h hmax hm hp hi hj).mono ?_
  rintro e w2 ⟨rfl, hbx⟩
  have H := H.step hbx
  clear hbx q1 q2 q3 q4 q5 q6 q7 q8 q9 q10 q11 q12
  obtain ⟨q1, q2, q3, q4⟩ := H.box.three
  obtain ⟨q5, q6, q7, q8⟩ := H.res.three
  obtain ⟨q9, q10, q11, q12⟩ := H.out.three
  go_wp2
  refine bodyPost_ret (v := .tuple #[.agg #[.slice a1 n1 d1, .slice a2 n2 d2, .slice a3 n3 d3], .int .i64 2]) (by simp [results, Try.results27, go_sem, q5, q6, q7]) rfl ⟨a1, n1, d1, a2, n2, d2, a3, n3, d3, rfl, H.done.1, H.done.2⟩

set_option maxHeartbeats 1000000 in
theorem iWrite_mis2 (b1 o1 b2 o2 b3 o3 n1 c1 n2 c2 n3 c3 : Nat) (x1 x2 x3 : List Int) (p : Int) (v : Int) (w : World) (h1 : BS w (some ⟨b1, o1, none⟩) n1 c1 x1) (h2 : BS w (some ⟨b2, o2, none⟩) n2 c2 x2) (h3 : BS w (some ⟨b3, o3, none⟩) n3 c3 x3) (hn : n1 + n2 + n3 ≤ 1048576) (hv : -9223372036854775808 ≤ v ∧ v ≤ 9223372036854775807) (h : mok n1 n2 n3 = true) (hm : (p.tmod 2 != 0) = true) :
    Calls Try.prog 27 #[.agg #[.slice (some ⟨b1, o1, none⟩) n1 c1, .slice (some ⟨b2, o2, none⟩) n2 c2, .slice (some ⟨b3, o3, none⟩) n3 c3], .int .i64 p, .int .i64 2, .int .i64 v] w (WrPost w (x1, x2, x3, 1)) := by
  have hB0 : Below w.heap.size w ((w.alloc (.cells #[.slice (some ⟨b1, o1, none⟩) n1 c1, .slice (some ⟨b2, o2, none⟩) n2 c2, .slice (some ⟨b3, o3, none⟩) n3 c3] 38)).alloc (.cells #[.slice none 0 0, .slice none 0 0, .slice none 0 0] 38)) := ((Below.refl _ _).alloc (Nat.le_refl _) _).alloc (by simp) _
  go_enter Try.func27, Try.ntmps27
  go_wp2_with fail
  refine (copyMem_any b1 o1 b2 o2 b3 o3 n1 c1 n2 c2 n3 c3 x1 x2 x3 _ (h1.below hB0) (h2.below hB0) (h3.below hB0) hn).mono ?_
  rintro e w1 ⟨a1, d1, a2, d2, a3, d3, rfl, hO, hb1⟩
  have H := hold_start (bx := #[.slice (some ⟨b1, o1, none⟩) n1 c1, .slice (some ⟨b2, o2, none⟩) n2 c2, .slice (some ⟨b3, o3, none⟩) n3 c3]) hO hb1
  have hgo := hb1.size
  simp only [World.size_alloc] at hgo
  clear hO hb1
  obtain ⟨q1, q2, q3, q4⟩ := H.box.three
  obtain ⟨q5, q6, q7, q8⟩ := H.res.three
  obtain ⟨q9, q10, q11, q12⟩ := H.out.three
  go_wp2_with fail
  refine (wf_mis2 (some ⟨b1, o1, none⟩) (some ⟨b2, o2, none⟩) (some ⟨b3, o3, none⟩) n1 c1 n2 c2 n3 c3 p _ h hm).mono ?_
  rintro e w2 ⟨rfl, hbx⟩
  have H := H.step hbx
  clear hbx q1 q2 q3 q4 q5 q6 q7 q8 q9 q10 q11 q12
  obtain ⟨q1, q2, q3, q4⟩ := H.box.three
  obtain ⟨q5, q6, q7, q8⟩ := H.res.three
  obtain ⟨q9, q10, q11, q12⟩ := H.out.three
  go_wp2
  refine bodyPost_ret (v := .tuple #[.agg #[.slice a1 n1 d1, .slice a2 n2 d2, .slice a3 n3 d3], .int .i64 1]) (by simp [results, Try.results27, go_sem, q5, q6, q7]) rfl ⟨a1, n1, d1, a2, n2, d2, a3, n3, d3, rfl, H.done.1, H.done.2⟩

set_option maxHeartbeats 1000000 in
theorem iWrite_full2 (b1 o1 b2 o2 b3 o3 n1 c1 n2 c2 n3 c3 : Nat) (x1 x2 x3 : List Int)  (v : Int) (w : World) (h1 : BS w (some ⟨b1, o1, none⟩) n1 c1 x1) (h2 : BS w (some ⟨b2, o2, none⟩) n2 c2 x2) (h3 : BS w (some ⟨b3, o3, none⟩) n3 c3 x3) (hn : n1 + n2 + n3 ≤ 1048576) (hv : -9223372036854775808 ≤ v ∧ v ≤ 9223372036854775807) (h : mok n1 n2 n3 = true) (hfull : 5000 ≤ n3) :
    Calls Try.prog 27 #[.agg #[.slice (some ⟨b1, o1, none⟩) n1 c1, .slice (some ⟨b2, o2, none⟩) n2 c2, .slice (some ⟨b3, o3, none⟩) n3 c3], .int .i64 131072, .int .i64 2, .int .i64 v] w (WrPost w (x1, x2, x3, 4)) := by
  have hB0 : Below w.heap.size w ((w.alloc (.cells #[.slice (some ⟨b1, o1, none⟩) n1 c1, .slice (some ⟨b2, o2, none⟩) n2 c2, .slice (some ⟨b3, o3, none⟩) n3 c3] 38)).alloc (.cells #[.slice none 0 0, .slice none 0 0, .slice none 0 0] 38)) := ((Below.refl _ _).alloc (Nat.le_refl _) _).alloc (by simp) _
  go_enter Try.func27, Try.ntmps27
  go_wp2_with fail
  refine (copyMem_any b1 o1 b2 o2 b3 o3 n1 c1 n2 c2 n3 c3 x1 x2 x3 _ (h1.below hB0) (h2.below hB0) (h3.below hB0) hn).mono ?_
  rintro e w1 ⟨a1, d1, a2, d2, a3, d3, rfl, hO, hb1⟩
  have H := hold_start (bx := #[.slice (some ⟨b1, o1, none⟩) n1 c1, .slice (some ⟨b2, o2, none⟩) n2 c2, .slice (some ⟨b3, o3, none⟩) n3 c3]) hO hb1
  have hgo := hb1.size
  simp only [World.size_alloc] at hgo
  clear hO hb1
  obtain ⟨q1, q2, q3, q4⟩ := H.box.three
  obtain ⟨q5, q6, q7, q8⟩ := H.res.three
  obtain ⟨q9, q10, q11, q12⟩ := H.out.three
  go_wp2_with fail
  refine (wf_full2 (some ⟨b1, o1, none⟩) (some ⟨b2, o2, none⟩) (some ⟨b3, o3, none⟩) n1 c1 n2 c2 n3 c3 _ h (by omega)).mono ?_
  rintro e w2 ⟨rfl, hbx⟩
  have H := H.step hbx
  clear hbx q1 q2 q3 q4 q5 q6 q7 q8 q9 q10 q11 q12
  obtain ⟨q1, q2, q3, q4⟩ := H.box.three
  obtain ⟨q5, q6, q7, q8⟩ := H.res.three
  obtain ⟨q9, q10, q11, q12⟩ := H.out.three
  go_wp2
  refine bodyPost_ret (v := .tuple #[.agg #[.slice a1 n1 d1, .slice a2 n2 d2, .slice a3 n3 d3], .int .i64 4]) (by simp [results, Try.results27, go_sem, q5, q6, q7]) rfl ⟨a1, n1, d1, a2, n2, d2, a3, n3, d3, rfl, H.done.1, H.done.2⟩

set_option maxHeartbeats 1000000 in
theorem iWrite_flash2 (b1 o1 b2 o2 b3 o3 n1 c1 n2 c2 n3 c3 : Nat) (x1 x2 x3 : List Int) (p : Int) (v : Int) (w : World) (h1 : BS w (some ⟨b1, o1, none⟩) n1 c1 x1) (h2 : BS w (some ⟨b2, o2, none⟩) n2 c2 x2) (h3 : BS w (some ⟨b3, o3, none⟩) n3 c3 x3) (hn : n1 + n2 + n3 ≤ 1048576) (hv : -9223372036854775808 ≤ v ∧ v ≤ 9223372036854775807) (h : mok n1 n2 n3 = true) (hmax : p ≤ 9223372036854775807) (hm : (p.tmod 2 != 0) = false) (hp : (p == 131072) = false) (hi : ins p 2 0 n1 = true) :
    Calls Try.prog 27 #[.agg #[.slice (some ⟨b1, o1, none⟩) n1 c1, .slice (some ⟨b2, o2, none⟩) n2 c2, .slice (some ⟨b3, o3, none⟩) n3 c3], .int .i64 p, .int .i64 2, .int .i64 v] w (WrPost w (x1, x2, x3, 3)) := by
  have hB0 : Below w.heap.size w ((w.alloc (.cells #[.slice (some ⟨b1, o1, none⟩) n1 c1, .slice (some ⟨b2, o2, none⟩) n2 c2, .slice (some ⟨b3, o3, none⟩) n3 c3] 38)).alloc (.cells #[.slice none 0 0, .slice none 0 0, .slice none 0 0] 38)) := ((Below.refl _ _).alloc (Nat.le_refl _) _).alloc (by simp) _
  go_enter Try.func27, Try.ntmps27
  go_wp2_with fail
  refine (copyMem_any b1 o1 b2 o2 b3 o3 n1 c1 n2 c2 n3 c3 x1 x2 x3 _ (h1.below hB0) (h2.below hB0) (h3.below hB0) hn).mono ?_
  rintro e w1 ⟨a1, d1, a2, d2, a3, d3, rfl, hO, hb1⟩
  have H := hold_start (bx := #[.slice (some ⟨b1, o1, none⟩) n1 c1, .slice (some ⟨b2, o2, none⟩) n2 c2, .slice (some ⟨b3, o3, none⟩) n3 c3]) hO hb1
  have hgo := hb1.size
  simp only [World.size_alloc] at hgo
  clear hO hb1
  obtain ⟨q1, q2, q3, q4⟩ := H.box.three
  obtain ⟨q5, q6, q7, q8⟩ := H.res.three
  obtain ⟨q9, q10, q11, q12⟩ := H.out.three
  go_wp2_with fail
  refine (wf_flash2 (some ⟨b1, o1, none⟩) (some ⟨b2, o2, none⟩) (some ⟨b3, o3, none⟩) n1 c1 n2 c2 n3 c3 p _ h hmax hm hp hi).mono ?_
  rintro e w2 ⟨rfl, hbx⟩
  have H := H.step hbx
  clear hbx q1 q2 q3 q4 q5 q6 q7 q8 q9 q10 q11 q12
  obtain ⟨q1, q2, q3, q4⟩ := H.box.three
  obtain ⟨q5, q6, q7, q8⟩ := H.res.three
  obtain ⟨q9, q10, q11, q12⟩ := H.out.three
  go_wp2
  refine bodyPost_ret (v := .tuple #[.agg #[.slice a1 n1 d1, .slice a2 n2 d2, .slice a3 n3 d3], .int .i64 3]) (by simp [results, Try.results27, go_sem, q5, q6, q7]) rfl ⟨a1, n1, d1, a2, n2, d2, a3, n3, d3, rfl, H.done.1, H.done.2⟩

set_option maxHeartbeats 1000000 in
theorem iWrite_bus2 (b1 o1 b2 o2 b3 o3 n1 c1 n2 c2 n3 c3 : Nat) (x1 x2 x3 : List Int) (p : Int) (v : Int) (w : World) (h1 : BS w (some ⟨b1, o1, none⟩) n1 c1 x1) (h2 : BS w (some ⟨b2, o2, none⟩) n2 c2 x2) (h3 : BS w (some ⟨b3, o3, none⟩) n3 c3 x3) (hn : n1 + n2 + n3 ≤ 1048576) (hv : -9223372036854775808 ≤ v ∧ v ≤ 9223372036854775807) (h : mok n1 n2 n3 = true) (hmax : p ≤ 9223372036854775807) (hm : (p.tmod 2 != 0) = false) (hp : (p == 131072) = false) (hi : ins p 2 0 n1 = false) (hj : ins p 2 65536 n2 = false) :
    Calls Try.prog 27 #[.agg #[.slice (some ⟨b1, o1, none⟩) n1 c1, .slice (some ⟨b2, o2, none⟩) n2 c2, .slice (some ⟨b3, o3, none⟩) n3 c3], .int .i64 p, .int .i64 2, .int .i64 v] w (WrPost w (x1, x2, x3, 2)) := by
  have hB0 : Below w.heap.size w ((w.alloc (.cells #[.slice (some ⟨b1, o1, none⟩) n1 c1, .slice (some ⟨b2, o2, none⟩) n2 c2, .slice (some ⟨b3, o3, none⟩) n3 c3] 38)).alloc (.cells #[.slice none 0 0, .slice none 0 0, .slice none 0 0] 38)) := ((Below.refl _ _).alloc (Nat.le_refl _) _).alloc (by simp) _
  go_enter Try.func27, Try.ntmps27
  go_wp2_with fail
  refine (copyMem_any b1 o1 b2 o2 b3 o3 n1 c1 n2 c2 n3 c3 x1 x2 x3 _ (h1.below hB0) (h2.below hB0) (h3.below hB0) hn).mono ?_
  rintro e w1 ⟨a1, d1, a2, d2, a3, d3, rfl, hO, hb1⟩
  have H := hold_start (bx := #[.slice (some ⟨b1, o1, none⟩) n1 c1, .slice (some ⟨b2, o2, none⟩) n2 c2, .slice (some ⟨b3, o3, none⟩) n3 c3]) hO hb1
  have hgo := hb1.size
  simp only [World.size_alloc] at hgo
  clear hO hb1
  obtain ⟨q1, q2, q3, q4⟩ := H.box.three
  obtain ⟨q5, q6, q7, q8⟩ := H.res.three
  obtain ⟨q9, q10, q11, q12⟩ := H.out.three
  go_wp2_with fail
  refine (wf_bus2 (some ⟨b1, o1, none⟩) (some ⟨b2, o2, none⟩) (some ⟨b3, o3, none⟩) n1 c1 n2 c2 n3 c3 p _ h hmax hm hp hi hj).mono ?_
  rintro e w2 ⟨rfl, hbx⟩
  have H := H.step hbx
  clear hbx q1 q2 q3 q4 q5 q6 q7 q8 q9 q10 q11 q12
  obtain ⟨q1, q2, q3, q4⟩ := H.box.three
  obtain ⟨q5, q6, q7, q8⟩ := H.res.three
  obtain ⟨q9, q10, q11, q12⟩ := H.out.three
  go_wp2
  refine bodyPost_ret (v := .tuple #[.agg #[.slice a1 n1 d1, .slice a2 n2 d2, .slice a3 n3 d3], .int .i64 2]) (by simp [results, Try.results27, go_sem, q5, q6, q7]) rfl ⟨a1, n1, d1, a2, n2, d2, a3, n3, d3, rfl, H.done.1, H.done.2⟩

set_option maxHeartbeats 1000000 in
theorem iWrite_full1 (b1 o1 b2 o2 b3 o3 n1 c1 n2 c2 n3 c3 : Nat) (x1 x2 x3 : List Int)  (v : Int) (w : World) (h1 : BS w (some ⟨b1, o1, none⟩) n1 c1 x1) (h2 : BS w (some ⟨b2, o2, none⟩) n2 c2 x2) (h3 : BS w (some ⟨b3, o3, none⟩) n3 c3 x3) (hn : n1 + n2 + n3 ≤ 1048576) (hv : -9223372036854775808 ≤ v ∧ v ≤ 9223372036854775807) (h : mok n1 n2 n3 = true) (hfull : 5000 ≤ n3) :
    Calls Try.prog 27 #[.agg #[.slice (some ⟨b1, o1, none⟩) n1 c1, .slice (some ⟨b2, o2, none⟩) n2 c2, .slice (some ⟨b3, o3, none⟩) n3 c3], .int .i64 131072, .int .i64 1, .int .i64 v] w (WrPost w (x1, x2, x3, 4)) := by
  have hB0 : Below w.heap.size w ((w.alloc (.cells #[.slice (some ⟨b1, o1, none⟩) n1 c1, .slice (some ⟨b2, o2, none⟩) n2 c2, .slice (some ⟨b3, o3, none⟩) n3 c3] 38)).alloc (.cells #[.slice none 0 0, .slice none 0 0, .slice none 0 0] 38)) := ((Below.refl _ _).alloc (Nat.le_refl _) _).alloc (by simp) _
  go_enter Try.func27, Try.ntmps27
  go_wp2_with fail
  refine (copyMem_any b1 o1 b2 o2 b3 o3 n1 c1 n2 c2 n3 c3 x1 x2 x3 _ (h1.below hB0) (h2.below hB0) (h3.below hB0) hn).mono ?_
  rintro e w1 ⟨a1, d1, a2, d2, a3, d3, rfl, hO, hb1⟩
  have H := hold_start (bx := #[.slice (some ⟨b1, o1, none⟩) n1 c1, .slice (some ⟨b2, o2, none⟩) n2 c2, .slice (some ⟨b3, o3, none⟩) n3 c3]) hO hb1
  have hgo := hb1.size
  simp only [World.size_alloc] at hgo
  clear hO hb1
  obtain ⟨q1, q2, q3, q4⟩ := H.box.three
  obtain ⟨q5, q6, q7, q8⟩ := H.res.three
  obtain ⟨q9, q10, q11, q12⟩ := H.out.three
  go_wp2_with fail
  refine (wf_full1 (some ⟨b1, o1, none⟩) (some ⟨b2, o2, none⟩) (some ⟨b3, o3, none⟩) n1 c1 n2 c2 n3 c3 _ h (by omega)).mono ?_
  rintro e w2 ⟨rfl, hbx⟩
  have H := H.step hbx
  clear hbx q1 q2 q3 q4 q5 q6 q7 q8 q9 q10 q11 q12
  obtain ⟨q1, q2, q3, q4⟩ := H.box.three
  obtain ⟨q5, q6, q7, q8⟩ := H.res.three
  obtain ⟨q9, q10, q11, q12⟩ := H.out.three
  go_wp2
  refine bodyPost_ret (v := .tuple #[.agg #[.slice a1 n1 d1, .slice a2 n2 d2, .slice a3 n3 d3], .int .i64 4]) (by simp [results, Try.results27, go_sem, q5, q6, q7]) rfl ⟨a1, n1, d1, a2, n2, d2, a3, n3, d3, rfl, H.done.1, H.done.2⟩

set_option maxHeartbeats 1000000 in
theorem iWrite_flash1 (b1 o1 b2 o2 b3 o3 n1 c1 n2 c2 n3 c3 : Nat) (x1 x2 x3 : List Int) (p : Int) (v : Int) (w : World) (h1 : BS w (some ⟨b1, o1, none⟩) n1 c1 x1) (h2 : BS w (some ⟨b2, o2, none⟩) n2 c2 x2) (h3 : BS w (some ⟨b3, o3, none⟩) n3 c3 x3) (hn : n1 + n2 + n3 ≤ 1048576) (hv : -9223372036854775808 ≤ v ∧ v ≤ 9223372036854775807) (h : mok n1 n2 n3 = true) (hmax : p ≤ 9223372036854775807) (hm : (p.tmod 1 != 0) = false) (hp : (p == 131072) = false) (hi : ins p 1 0 n1 = true) :
    Calls Try.prog 27 #[.agg #[.slice (some ⟨b1, o1, none⟩) n1 c1, .slice (some ⟨b2, o2, none⟩) n2 c2, .slice (some ⟨b3, o3, none⟩) n3 c3], .int .i64 p, .int .i64 1, .int .i64 v] w (WrPost w (x1, x2, x3, 3)) := by
  have hB0 : Below w.heap.size w ((w.alloc (.cells #[.slice (some ⟨b1, o1, none⟩) n1 c1, .slice (some ⟨b2, o2, none⟩) n2 c2, .slice (some ⟨b3, o3, none⟩) n3 c3] 38)).alloc (.cells #[.slice none 0 0, .slice none 0 0, .slice none 0 0] 38)) := ((Below.refl _ _).alloc (Nat.le_refl _) _).alloc (by simp) _
  go_enter Try.func27, Try.ntmps27
  go_wp2_with fail
  refine (copyMem_any b1 o1 b2 o2 b3 o3 n1 c1 n2 c2 n3 c3 x1 x2 x3 _ (h1.below hB0) (h2.below hB0) (h3.below hB0) hn).mono ?_
  rintro e w1 ⟨a1, d1, a2, d2, a3, d3, rfl, hO, hb1⟩
  have H := hold_start (bx := #[.slice (some ⟨b1, o1, none⟩) n1 c1, .slice (some ⟨b2, o2, none⟩) n2 c2, .slice (some ⟨b3, o3, none⟩) n3 c3]) hO hb1
  have hgo := hb1.size
  simp only [World.size_alloc] at hgo
  clear hO hb1
  obtain ⟨q1, q2, q3, q4⟩ := H.box.three
  obtain ⟨q5, q6, q7, q8⟩ := H.res.three
  obtain ⟨q9, q10, q11, q12⟩ := H.out.three
  go_wp2_with fail
  refine (wf_flash1 (some ⟨b1, o1, none⟩) (some ⟨b2, o2, none⟩) (some ⟨b3, o3, none⟩) n1 c1 n2 c2 n3 c3 p _ h hmax hm hp hi).mono ?_
  rintro e w2 ⟨rfl, hbx⟩
  have H := H.step hbx
  clear hbx q1 q2 q3 q4 q5 q6 q7 q8 q9 q10 q11 q12
  obtain ⟨q1, q2, q3, q4⟩ := H.box.three
  obtain ⟨q5, q6, q7, q8⟩ := H.res.three
  obtain ⟨q9, q10, q11, q12⟩ := H.out.three
  go_wp2
  refine bodyPost_ret (v := .tuple #[.agg #[.slice a1 n1 d1, .slice a2 n2 d2, .slice a3 n3 d3], .int .i64 3]) (by simp [results, Try.results27, go_sem, q5, q6, q7]) rfl ⟨a1, n1, d1, a2, n2, d2, a3, n3, d3, rfl, H.done.1, H.done.2⟩

set_option maxHeartbeats 1000000 in
theorem iWrite_bus1 (b1 o1 b2 o2 b3 o3 n1 c1 n2 c2 n3 c3 : Nat) (x1 x2 x3 : List Int) (p : Int) (v : Int) (w : World) (h1 : BS w (some ⟨b1, o1, none⟩) n1 c1 x1) (h2 : BS w (some ⟨b2, o2, none⟩) n2 c2 x2) (h3 : BS w (some ⟨b3, o3, none⟩) n3 c3 x3) (hn : n1 + n2 + n3 ≤ 1048576) (hv : -9223372036854775808 ≤ v ∧ v ≤ 9223372036854775807) (h : mok n1 n2 n3 = true) (hmax : p ≤ 9223372036854775807) (hm : (p.tmod 1 != 0) = false) (hp : (p == 131072) = false) (hi : ins p 1 0 n1 = false) (hj : ins p 1 65536 n2 = false) :
    Calls Try.prog 27 #[.agg #[.slice (some ⟨b1, o1, none⟩) n1 c1, .slice (some ⟨b2, o2, none⟩) n2 c2, .slice (some ⟨b3, o3, none⟩) n3 c3], .int .i64 p, .int .i64 1, .int .i64 v] w (WrPost w (x1, x2, x3, 2)) := by
  have hB0 : Below w.heap.size w ((w.alloc (.cells #[.slice (some ⟨b1, o1, none⟩) n1 c1, .slice (some ⟨b2, o2, none⟩) n2 c2, .slice (some ⟨b3, o3, none⟩) n3 c3] 38)).alloc (.cells #[.slice none 0 0, .slice none 0 0, .slice none 0 0] 38)) := ((Below.refl _ _).alloc (Nat.le_refl _) _).alloc (by simp) _
  go_enter Try.func27, Try.ntmps27
  go_wp2_with fail
  refine (copyMem_any b1 o1 b2 o2 b3 o3 n1 c1 n2 c2 n3 c3 x1 x2 x3 _ (h1.below hB0) (h2.below hB0) (h3.below hB0) hn).mono ?_
  rintro e w1 ⟨a1, d1, a2, d2, a3, d3, rfl, hO, hb1⟩
  have H := hold_start (bx := #[.slice (some ⟨b1, o1, none⟩) n1 c1, .slice (some ⟨b2, o2, none⟩) n2 c2, .slice (some ⟨b3, o3, none⟩) n3 c3]) hO hb1
  have hgo := hb1.size
  simp only [World.size_alloc] at hgo
  clear hO hb1
  obtain ⟨q1, q2, q3, q4⟩ := H.box.three
  obtain ⟨q5, q6, q7, q8⟩ := H.res.three
  obtain ⟨q9, q10, q11, q12⟩ := H.out.three
  go_wp2_with fail
  refine (wf_bus1 (some ⟨b1, o1, none⟩) (some ⟨b2, o2, none⟩) (some ⟨b3, o3, none⟩) n1 c1 n2 c2 n3 c3 p _ h hmax hm hp hi hj).mono ?_
  rintro e w2 ⟨rfl, hbx⟩
  have H := H.step hbx
  clear hbx q1 q2 q3 q4 q5 q6 q7 q8 q9 q10 q11 q12
  obtain ⟨q1, q2, q3, q4⟩ := H.box.three
  obtain ⟨q5, q6, q7, q8⟩ := H.res.three
  obtain ⟨q9, q10, q11, q12⟩ := H.out.three
  go_wp2
  refine bodyPost_ret (v := .tuple #[.agg #[.slice a1 n1 d1, .slice a2 n2 d2, .slice a3 n3 d3], .int .i64 2]) (by simp [results, Try.results27, go_sem, q5, q6, q7]) rfl ⟨a1, n1, d1, a2, n2, d2, a3, n3, d3, rfl, H.done.1, H.done.2⟩

end Go.Proofs.Ytbpnpkolkpfliab
