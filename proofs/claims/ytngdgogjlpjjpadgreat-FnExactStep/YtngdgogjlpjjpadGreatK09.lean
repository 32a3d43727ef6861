import Derived.Test.YtngdgogjlpjjpadGreatK08
import Derived.Test.YtngdgogjlpjjpadGreatK06
namespace Go.Proofs.YtngdgogjlpjjpadGreat
open Go.RowKit
set_option linter.unusedVariables false

set_option maxHeartbeats 1000000 in
theorem portFault_full (a1 a2 a3 : Option Addr) (n1 c1 n2 c2 n3 c3 : Nat) (w : World) (hf : (5000 : Int) ≤ (n3 : Int)) :
    Calls Tryz.prog 284 #[.agg #[.slice a1 n1 c1, .slice a2 n2 c2, .slice a3 n3 c3]] w fun e w' => e = .returned (.int .i64 4) ∧ Below w.heap.size w w' := by
  go_enter Tryz.func284, Tryz.ntmps284
  go_wp2
  go_ret
  exact ⟨rfl, (Below.refl _ _).alloc (Nat.le_refl _) _⟩
set_option maxRecDepth 100000 in
set_option maxHeartbeats 1000000 in
theorem portFault_free (a1 a2 a3 : Option Addr) (n1 c1 n2 c2 n3 c3 : Nat) (w : World) (hf : (n3 : Int) < 5000) :
    Calls Tryz.prog 284 #[.agg #[.slice a1 n1 c1, .slice a2 n2 c2, .slice a3 n3 c3]] w fun e w' => e = .returned (.int .i64 0) ∧ Below w.heap.size w w' := by
  go_enter Tryz.func284, Tryz.ntmps284
  go_wp2
  go_ret
  exact ⟨rfl, (Below.refl _ _).alloc (Nat.le_refl _) _⟩

set_option maxHeartbeats 1000000 in
theorem wf_bad (a1 a2 a3 : Option Addr) (n1 c1 n2 c2 n3 c3 : Nat) (p s : Int) (w : World) (h : mok n1 n2 n3 = false ∨ wd s = false) :
    Calls Tryz.prog 279 #[.agg #[.slice a1 n1 c1, .slice a2 n2 c2, .slice a3 n3 c3], .int .i64 p, .int .i64 s] w fun e w' => e = .returned (.int .i64 2) ∧ Below w.heap.size w w' := by
  have hB0 : Below w.heap.size w (w.alloc (.cells #[.slice a1 n1 c1, .slice a2 n2 c2, .slice a3 n3 c3] 38)) := (Below.refl _ _).alloc (Nat.le_refl _) _
  go_enter Tryz.func279, Tryz.ntmps279
  go_wp2_with fail
  refine (acc_bad a1 a2 a3 n1 c1 n2 c2 n3 c3 p s _ h).mono ?_
  rintro e w1 ⟨rfl, hb1⟩
  have k1 := (Blk.new w #[.slice a1 n1 c1, .slice a2 n2 c2, .slice a3 n3 c3] 38).below hb1
  have hB1 := hB0.trans (hb1.mono (by simp))
  obtain ⟨q1, q2, q3, q4⟩ := k1.three
  clear hb1 k1
  clear h
  go_wp2
  go_ret
  exact ⟨rfl, hB1⟩

set_option maxHeartbeats 1000000 in
theorem wf_mis4 (a1 a2 a3 : Option Addr) (n1 c1 n2 c2 n3 c3 : Nat) (p : Int) (w : World) (h : mok n1 n2 n3 = true) (hm : (p.tmod 4 != 0) = true) :
    Calls Tryz.prog 279 #[.agg #[.slice a1 n1 c1, .slice a2 n2 c2, .slice a3 n3 c3], .int .i64 p, .int .i64 4] w fun e w' => e = .returned (.int .i64 1) ∧ Below w.heap.size w w' := by
  have hB0 : Below w.heap.size w (w.alloc (.cells #[.slice a1 n1 c1, .slice a2 n2 c2, .slice a3 n3 c3] 38)) := (Below.refl _ _).alloc (Nat.le_refl _) _
  go_enter Tryz.func279, Tryz.ntmps279
  go_wp2_with fail
  refine (acc_mis4 a1 a2 a3 n1 c1 n2 c2 n3 c3 p _ h hm).mono ?_
  rintro e w1 ⟨rfl, hb1⟩
  have k1 := (Blk.new w #[.slice a1 n1 c1, .slice a2 n2 c2, .slice a3 n3 c3] 38).below hb1
  have hB1 := hB0.trans (hb1.mono (by simp))
  obtain ⟨q1, q2, q3, q4⟩ := k1.three
  clear hb1 k1
  go_wp2
  go_ret
  exact ⟨rfl, hB1⟩

set_option maxHeartbeats 1000000 in
theorem wf_full4 (a1 a2 a3 : Option Addr) (n1 c1 n2 c2 n3 c3 : Nat)  (w : World) (h : mok n1 n2 n3 = true) (hf : (5000 : Int) ≤ (n3 : Int)) :
    Calls Tryz.prog 279 #[.agg #[.slice a1 n1 c1, .slice a2 n2 c2, .slice a3 n3 c3], .int .i64 131072, .int .i64 4] w fun e w' => e = .returned (.int .i64 4) ∧ Below w.heap.size w w' := by
  have hB0 : Below w.heap.size w (w.alloc (.cells #[.slice a1 n1 c1, .slice a2 n2 c2, .slice a3 n3 c3] 38)) := (Below.refl _ _).alloc (Nat.le_refl _) _
  go_enter Tryz.func279, Tryz.ntmps279
  go_wp2_with fail
  refine (acc_ok4 a1 a2 a3 n1 c1 n2 c2 n3 c3 131072 _ h (by decide)).mono ?_
  rintro e w1 ⟨rfl, hb1⟩
  have k1 := (Blk.new w #[.slice a1 n1 c1, .slice a2 n2 c2, .slice a3 n3 c3] 38).below hb1
  have hB1 := hB0.trans (hb1.mono (by simp))
  obtain ⟨q1, q2, q3, q4⟩ := k1.three
  clear hb1 k1
  go_wp2_with fail
  refine (portFault_full a1 a2 a3 n1 c1 n2 c2 n3 c3 _ hf).mono ?_
  rintro e w2 ⟨rfl, hb2⟩
  have hB1 := hB1.trans (hb2.mono hB1.size)
  go_wp2
  go_ret
  exact ⟨rfl, hB1⟩

set_option maxHeartbeats 1000000 in
theorem wf_free4 (a1 a2 a3 : Option Addr) (n1 c1 n2 c2 n3 c3 : Nat)  (w : World) (h : mok n1 n2 n3 = true) (hf : (n3 : Int) < 5000) :
    Calls Tryz.prog 279 #[.agg #[.slice a1 n1 c1, .slice a2 n2 c2, .slice a3 n3 c3], .int .i64 131072, .int .i64 4] w fun e w' => e = .returned (.int .i64 0) ∧ Below w.heap.size w w' := by
  have hB0 : Below w.heap.size w (w.alloc (.cells #[.slice a1 n1 c1, .slice a2 n2 c2, .slice a3 n3 c3] 38)) := (Below.refl _ _).alloc (Nat.le_refl _) _
  go_enter Tryz.func279, Tryz.ntmps279
  go_wp2_with fail
  refine (acc_ok4 a1 a2 a3 n1 c1 n2 c2 n3 c3 131072 _ h (by decide)).mono ?_
  rintro e w1 ⟨rfl, hb1⟩
  have k1 := (Blk.new w #[.slice a1 n1 c1, .slice a2 n2 c2, .slice a3 n3 c3] 38).below hb1
  have hB1 := hB0.trans (hb1.mono (by simp))
  obtain ⟨q1, q2, q3, q4⟩ := k1.three
  clear hb1 k1
  go_wp2_with fail
  refine (portFault_free a1 a2 a3 n1 c1 n2 c2 n3 c3 _ hf).mono ?_
  rintro e w2 ⟨rfl, hb2⟩
  have hB1 := hB1.trans (hb2.mono hB1.size)
  go_wp2
  go_ret
  exact ⟨rfl, hB1⟩

set_option maxHeartbeats 1000000 in
theorem wf_flash4 (a1 a2 a3 : Option Addr) (n1 c1 n2 c2 n3 c3 : Nat) (p : Int) (w : World) (h : mok n1 n2 n3 = true) (hmax : p ≤ 9223372036854775807) (hm : (p.tmod 4 != 0) = false) (hp : (p == 131072) = false) (hi : ins p 4 0 n1 = true) :
    Calls Tryz.prog 279 #[.agg #[.slice a1 n1 c1, .slice a2 n2 c2, .slice a3 n3 c3], .int .i64 p, .int .i64 4] w fun e w' => e = .returned (.int .i64 3) ∧ Below w.heap.size w w' := by
  have hB0 : Below w.heap.size w (w.alloc (.cells #[.slice a1 n1 c1, .slice a2 n2 c2, .slice a3 n3 c3] 38)) := (Below.refl _ _).alloc (Nat.le_refl _) _
  go_enter Tryz.func279, Tryz.ntmps279
  obtain ⟨l1, l2, l3⟩ := mok1 h
  go_wp2_with fail
  refine (acc_ok4 a1 a2 a3 n1 c1 n2 c2 n3 c3 p _ h hm).mono ?_
  rintro e w1 ⟨rfl, hb1⟩
  have k1 := (Blk.new w #[.slice a1 n1 c1, .slice a2 n2 c2, .slice a3 n3 c3] 38).below hb1
  have hB1 := hB0.trans (hb1.mono (by simp))
  obtain ⟨q1, q2, q3, q4⟩ := k1.three
  clear hb1 k1
  go_wp2_with fail
  refine (holds_any a1 n1 c1 _ 4 0 _ (by omega) (by omega) (by omega) (by omega) (by omega) (by omega)).mono ?_
  rw [hi]
  rintro e wx ⟨rfl, rfl⟩
  go_wp2
  go_ret
  exact ⟨rfl, hB1⟩

set_option maxHeartbeats 1000000 in
theorem wf_bus4 (a1 a2 a3 : Option Addr) (n1 c1 n2 c2 n3 c3 : Nat) (p : Int) (w : World) (h : mok n1 n2 n3 = true) (hmax : p ≤ 9223372036854775807) (hm : (p.tmod 4 != 0) = false) (hp : (p == 131072) = false) (hi : ins p 4 0 n1 = false) (hj : ins p 4 65536 n2 = false) :
    Calls Tryz.prog 279 #[.agg #[.slice a1 n1 c1, .slice a2 n2 c2, .slice a3 n3 c3], .int .i64 p, .int .i64 4] w fun e w' => e = .returned (.int .i64 2) ∧ Below w.heap.size w w' := by
  have hB0 : Below w.heap.size w (w.alloc (.cells #[.slice a1 n1 c1, .slice a2 n2 c2, .slice a3 n3 c3] 38)) := (Below.refl _ _).alloc (Nat.le_refl _) _
  go_enter Tryz.func279, Tryz.ntmps279
  obtain ⟨l1, l2, l3⟩ := mok1 h
  go_wp2_with fail
  refine (acc_ok4 a1 a2 a3 n1 c1 n2 c2 n3 c3 p _ h hm).mono ?_
  rintro e w1 ⟨rfl, hb1⟩
  have k1 := (Blk.new w #[.slice a1 n1 c1, .slice a2 n2 c2, .slice a3 n3 c3] 38).below hb1
  have hB1 := hB0.trans (hb1.mono (by simp))
  obtain ⟨q1, q2, q3, q4⟩ := k1.three
  clear hb1 k1
  go_wp2_with fail
  refine (holds_any a1 n1 c1 _ 4 0 _ (by omega) (by omega) (by omega) (by omega) (by omega) (by omega)).mono ?_
  rw [hi]
  rintro e wx ⟨rfl, rfl⟩
  go_wp2_with fail
  refine (holds_any a2 n2 c2 _ 4 65536 _ (by omega) (by omega) (by omega) (by omega) (by omega) (by omega)).mono ?_
  rw [hj]
  rintro e wx ⟨rfl, rfl⟩
  go_wp2
  go_ret
  exact ⟨rfl, hB1⟩

set_option maxHeartbeats 1000000 in
theorem wf_ram4 (a1 a2 a3 : Option Addr) (n1 c1 n2 c2 n3 c3 : Nat) (p : Int) (w : World) (h : mok n1 n2 n3 = true) (hmax : p ≤ 9223372036854775807) (hm : (p.tmod 4 != 0) = false) (hp : (p == 131072) = false) (hi : ins p 4 0 n1 = false) (hj : ins p 4 65536 n2 = true) :
    Calls Tryz.prog 279 #[.agg #[.slice a1 n1 c1, .slice a2 n2 c2, .slice a3 n3 c3], .int .i64 p, .int .i64 4] w fun e w' => e = .returned (.int .i64 0) ∧ Below w.heap.size w w' := by
  have hB0 : Below w.heap.size w (w.alloc (.cells #[.slice a1 n1 c1, .slice a2 n2 c2, .slice a3 n3 c3] 38)) := (Below.refl _ _).alloc (Nat.le_refl _) _
  go_enter Tryz.func279, Tryz.ntmps279
  obtain ⟨l1, l2, l3⟩ := mok1 h
  go_wp2_with fail
  refine (acc_ok4 a1 a2 a3 n1 c1 n2 c2 n3 c3 p _ h hm).mono ?_
  rintro e w1 ⟨rfl, hb1⟩
  have k1 := (Blk.new w #[.slice a1 n1 c1, .slice a2 n2 c2, .slice a3 n3 c3] 38).below hb1
  have hB1 := hB0.trans (hb1.mono (by simp))
  obtain ⟨q1, q2, q3, q4⟩ := k1.three
  clear hb1 k1
  go_wp2_with fail
  refine (holds_any a1 n1 c1 _ 4 0 _ (by omega) (by omega) (by omega) (by omega) (by omega) (by omega)).mono ?_
  rw [hi]
  rintro e wx ⟨rfl, rfl⟩
  go_wp2_with fail
  refine (holds_any a2 n2 c2 _ 4 65536 _ (by omega) (by omega) (by omega) (by omega) (by omega) (by omega)).mono ?_
  rw [hj]
  rintro e wx ⟨rfl, rfl⟩
  go_wp2
  go_ret
  exact ⟨rfl, hB1⟩

set_option maxHeartbeats 1000000 in
theorem wf_mis2 (a1 a2 a3 : Option Addr) (n1 c1 n2 c2 n3 c3 : Nat) (p : Int) (w : World) (h : mok n1 n2 n3 = true) (hm : (p.tmod 2 != 0) = true) :
    Calls Tryz.prog 279 #[.agg #[.slice a1 n1 c1, .slice a2 n2 c2, .slice a3 n3 c3], .int .i64 p, .int .i64 2] w fun e w' => e = .returned (.int .i64 1) ∧ Below w.heap.size w w' := by
  have hB0 : Below w.heap.size w (w.alloc (.cells #[.slice a1 n1 c1, .slice a2 n2 c2, .slice a3 n3 c3] 38)) := (Below.refl _ _).alloc (Nat.le_refl _) _
  go_enter Tryz.func279, Tryz.ntmps279
  go_wp2_with fail
  refine (acc_mis2 a1 a2 a3 n1 c1 n2 c2 n3 c3 p _ h hm).mono ?_
  rintro e w1 ⟨rfl, hb1⟩
  have k1 := (Blk.new w #[.slice a1 n1 c1, .slice a2 n2 c2, .slice a3 n3 c3] 38).below hb1
  have hB1 := hB0.trans (hb1.mono (by simp))
  obtain ⟨q1, q2, q3, q4⟩ := k1.three
  clear hb1 k1
  go_wp2
  go_ret
  exact ⟨rfl, hB1⟩

set_option maxHeartbeats 1000000 in
theorem wf_full2 (a1 a2 a3 : Option Addr) (n1 c1 n2 c2 n3 c3 : Nat)  (w : World) (h : mok n1 n2 n3 = true) (hf : (5000 : Int) ≤ (n3 : Int)) :
    Calls Tryz.prog 279 #[.agg #[.slice a1 n1 c1, .slice a2 n2 c2, .slice a3 n3 c3], .int .i64 131072, .int .i64 2] w fun e w' => e = .returned (.int .i64 4) ∧ Below w.heap.size w w' := by
  have hB0 : Below w.heap.size w (w.alloc (.cells #[.slice a1 n1 c1, .slice a2 n2 c2, .slice a3 n3 c3] 38)) := (Below.refl _ _).alloc (Nat.le_refl _) _
  go_enter Tryz.func279, Tryz.ntmps279
  go_wp2_with fail
  refine (acc_ok2 a1 a2 a3 n1 c1 n2 c2 n3 c3 131072 _ h (by decide)).mono ?_
  rintro e w1 ⟨rfl, hb1⟩
  have k1 := (Blk.new w #[.slice a1 n1 c1, .slice a2 n2 c2, .slice a3 n3 c3] 38).below hb1
  have hB1 := hB0.trans (hb1.mono (by simp))
  obtain ⟨q1, q2, q3, q4⟩ := k1.three
  clear hb1 k1
  go_wp2_with fail
  refine (portFault_full a1 a2 a3 n1 c1 n2 c2 n3 c3 _ hf).mono ?_
  rintro e w2 ⟨rfl, hb2⟩
  have hB1 := hB1.trans (hb2.mono hB1.size)
  go_wp2
  go_ret
  exact ⟨rfl, hB1⟩

set_option maxHeartbeats 1000000 in
theorem wf_free2 (a1 a2 a3 : Option Addr) (n1 c1 n2 c2 n3 c3 : Nat)  (w : World) (h : mok n1 n2 n3 = true) (hf : (n3 : Int) < 5000) :
    Calls Tryz.prog 279 #[.agg #[.slice a1 n1 c1, .slice a2 n2 c2, .slice a3 n3 c3], .int .i64 131072, .int .i64 2] w fun e w' => e = .returned (.int .i64 0) ∧ Below w.heap.size w w' := by
  have hB0 : Below w.heap.size w (w.alloc (.cells #[.slice a1 n1 c1, .slice a2 n2 c2, .slice a3 n3 c3] 38)) := (Below.refl _ _).alloc (Nat.le_refl _) _
  go_enter Tryz.func279, Tryz.ntmps279
  go_wp2_with fail
  refine (acc_ok2 a1 a2 a3 n1 c1 n2 c2 n3 c3 131072 _ h (by decide)).mono ?_
  rintro e w1 ⟨rfl, hb1⟩
  have k1 := (Blk.new w #[.slice a1 n1 c1, .slice a2 n2 c2, .slice a3 n3 c3] 38).below hb1
  have hB1 := hB0.trans (hb1.mono (by simp))
  obtain ⟨q1, q2, q3, q4⟩ := k1.three
  clear hb1 k1
  go_wp2_with fail
  refine (portFault_free a1 a2 a3 n1 c1 n2 c2 n3 c3 _ hf).mono ?_
  rintro e w2 ⟨rfl, hb2⟩
  have hB1 := hB1.trans (hb2.mono hB1.size)
  go_wp2
  go_ret
  exact ⟨rfl, hB1⟩

set_option maxHeartbeats 1000000 in
theorem wf_flash2 (a1 a2 a3 : Option Addr) (n1 c1 n2 c2 n3 c3 : Nat) (p : Int) (w : World) (h : mok n1 n2 n3 = true) (hmax : p ≤ 9223372036854775807) (hm : (p.tmod 2 != 0) = false) (hp : (p == 131072) = false) (hi : ins p 2 0 n1 = true) :
    Calls Tryz.prog 279 #[.agg #[.slice a1 n1 c1, .slice a2 n2 c2, .slice a3 n3 c3], .int .i64 p, .int .i64 2] w fun e w' => e = .returned (.int .i64 3) ∧ Below w.heap.size w w' := by
  have hB0 : Below w.heap.size w (w.alloc (.cells #[.slice a1 n1 c1, .slice a2 n2 c2, .slice a3 n3 c3] 38)) := (Below.refl _ _).alloc (Nat.le_refl _) _
  go_enter Tryz.func279, Tryz.ntmps279
  obtain ⟨l1, l2, l3⟩ := mok1 h
  go_wp2_with fail
  refine (acc_ok2 a1 a2 a3 n1 c1 n2 c2 n3 c3 p _ h hm).mono ?_
  rintro e w1 ⟨rfl, hb1⟩
  have k1 := (Blk.new w #[.slice a1 n1 c1, .slice a2 n2 c2, .slice a3 n3 c3] 38).below hb1
  have hB1 := hB0.trans (hb1.mono (by simp))
  obtain ⟨q1, q2, q3, q4⟩ := k1.three
  clear hb1 k1
  go_wp2_with fail
  refine (holds_any a1 n1 c1 _ 2 0 _ (by omega) (by omega) (by omega) (by omega) (by omega) (by omega)).mono ?_
  rw [hi]
  rintro e wx ⟨rfl, rfl⟩
  go_wp2
  go_ret
  exact ⟨rfl, hB1⟩

set_option maxHeartbeats 1000000 in
theorem wf_bus2 (a1 a2 a3 : Option Addr) (n1 c1 n2 c2 n3 c3 : Nat) (p : Int) (w : World) (h : mok n1 n2 n3 = true) (hmax : p ≤ 9223372036854775807) (hm : (p.tmod 2 != 0) = false) (hp : (p == 131072) = false) (hi : ins p 2 0 n1 = false) (hj : ins p 2 65536 n2 = false) :
    Calls Tryz.prog 279 #[.agg #[.slice a1 n1 c1, .slice a2 n2 c2, .slice a3 n3 c3], .int .i64 p, .int .i64 2] w fun e w' => e = .returned (.int .i64 2) ∧ Below w.heap.size w w' := by
  have hB0 : Below w.heap.size w (w.alloc (.cells #[.slice a1 n1 c1, .slice a2 n2 c2, .slice a3 n3 c3] 38)) := (Below.refl _ _).alloc (Nat.le_refl _) _
  go_enter Tryz.func279, Tryz.ntmps279
  obtain ⟨l1, l2, l3⟩ := mok1 h
  go_wp2_with fail
  refine (acc_ok2 a1 a2 a3 n1 c1 n2 c2 n3 c3 p _ h hm).mono ?_
  rintro e w1 ⟨rfl, hb1⟩
  have k1 := (Blk.new w #[.slice a1 n1 c1, .slice a2 n2 c2, .slice a3 n3 c3] 38).below hb1
  have hB1 := hB0.trans (hb1.mono (by simp))
  obtain ⟨q1, q2, q3, q4⟩ := k1.three
  clear hb1 k1
  go_wp2_with fail
  refine (holds_any a1 n1 c1 _ 2 0 _ (by omega) (by omega) (by omega) (by omega) (by omega) (by omega)).mono ?_
  rw [hi]
  rintro e wx ⟨rfl, rfl⟩
  go_wp2_with fail
  refine (holds_any a2 n2 c2 _ 2 65536 _ (by omega) (by omega) (by omega) (by omega) (by omega) (by omega)).mono ?_
  rw [hj]
  rintro e wx ⟨rfl, rfl⟩
  go_wp2
  go_ret
  exact ⟨rfl, hB1⟩

set_option maxHeartbeats 1000000 in
theorem wf_ram2 (a1 a2 a3 : Option Addr) (n1 c1 n2 c2 n3 c3 : Nat) (p : Int) (w : World) (h : mok n1 n2 n3 = true) (hmax : p ≤ 9223372036854775807) (hm : (p.tmod 2 != 0) = false) (hp : (p == 131072) = false) (hi : ins p 2 0 n1 = false) (hj : ins p 2 65536 n2 = true) :
    Calls Tryz.prog 279 #[.agg #[.slice a1 n1 c1, .slice a2 n2 c2, .slice a3 n3 c3], .int .i64 p, .int .i64 2] w fun e w' => e = .returned (.int .i64 0) ∧ Below w.heap.size w w' := by
  have hB0 : Below w.heap.size w (w.alloc (.cells #[.slice a1 n1 c1, .slice a2 n2 c2, .slice a3 n3 c3] 38)) := (Below.refl _ _).alloc (Nat.le_refl _) _
  go_enter Tryz.func279, Tryz.ntmps279
  obtain ⟨l1, l2, l3⟩ := mok1 h
  go_wp2_with fail
  refine (acc_ok2 a1 a2 a3 n1 c1 n2 c2 n3 c3 p _ h hm).mono ?_
  rintro e w1 ⟨rfl, hb1⟩
  have k1 := (Blk.new w #[.slice a1 n1 c1, .slice a2 n2 c2, .slice a3 n3 c3] 38).below hb1
  have hB1 := hB0.trans (hb1.mono (by simp))
  obtain ⟨q1, q2, q3, q4⟩ := k1.three
  clear hb1 k1
  go_wp2_with fail
  refine (holds_any a1 n1 c1 _ 2 0 _ (by omega) (by omega) (by omega) (by omega) (by omega) (by omega)).mono ?_
  rw [hi]
  rintro e wx ⟨rfl, rfl⟩
  go_wp2_with fail
  refine (holds_any a2 n2 c2 _ 2 65536 _ (by omega) (by omega) (by omega) (by omega) (by omega) (by omega)).mono ?_
  rw [hj]
  rintro e wx ⟨rfl, rfl⟩
  go_wp2
  go_ret
  exact ⟨rfl, hB1⟩

set_option maxHeartbeats 1000000 in
theorem wf_full1 (a1 a2 a3 : Option Addr) (n1 c1 n2 c2 n3 c3 : Nat)  (w : World) (h : mok n1 n2 n3 = true) (hf : (5000 : Int) ≤ (n3 : Int)) :
    Calls Tryz.prog 279 #[.agg #[.slice a1 n1 c1, .slice a2 n2 c2, .slice a3 n3 c3], .int .i64 131072, .int .i64 1] w fun e w' => e = .returned (.int .i64 4) ∧ Below w.heap.size w w' := by
  have hB0 : Below w.heap.size w (w.alloc (.cells #[.slice a1 n1 c1, .slice a2 n2 c2, .slice a3 n3 c3] 38)) := (Below.refl _ _).alloc (Nat.le_refl _) _
  go_enter Tryz.func279, Tryz.ntmps279
  go_wp2_with fail
  refine (acc_ok1 a1 a2 a3 n1 c1 n2 c2 n3 c3 131072 _ h (by decide)).mono ?_
  rintro e w1 ⟨rfl, hb1⟩
  have k1 := (Blk.new w #[.slice a1 n1 c1, .slice a2 n2 c2, .slice a3 n3 c3] 38).below hb1
  have hB1 := hB0.trans (hb1.mono (by simp))
  obtain ⟨q1, q2, q3, q4⟩ := k1.three
  clear hb1 k1
  go_wp2_with fail
  refine (portFault_full a1 a2 a3 n1 c1 n2 c2 n3 c3 _ hf).mono ?_
  rintro e w2 ⟨rfl, hb2⟩
  have hB1 := hB1.trans (hb2.mono hB1.size)
  go_wp2
  go_ret
  exact ⟨rfl, hB1⟩

set_option maxHeartbeats 1000000 in
theorem wf_free1 (a1 a2 a3 : Option Addr) (n1 c1 n2 c2 n3 c3 : Nat)  (w : World) (h : mok n1 n2 n3 = true) (hf : (n3 : Int) < 5000) :
    Calls Tryz.prog 279 #[.agg #[.slice a1 n1 c1, .slice a2 n2 c2, .slice a3 n3 c3], .int .i64 131072, .int .i64 1] w fun e w' => e = .returned (.int .i64 0) ∧ Below w.heap.size w w' := by
  have hB0 : Below w.heap.size w (w.alloc (.cells #[.slice a1 n1 c1, .slice a2 n2 c2, .slice a3 n3 c3] 38)) := (Below.refl _ _).alloc (Nat.le_refl _) _
  go_enter Tryz.func279, Tryz.ntmps279
  go_wp2_with fail
  refine (acc_ok1 a1 a2 a3 n1 c1 n2 c2 n3 c3 131072 _ h (by decide)).mono ?_
  rintro e w1 ⟨rfl, hb1⟩
  have k1 := (Blk.new w #[.slice a1 n1 c1, .slice a2 n2 c2, .slice a3 n3 c3] 38).below hb1
  have hB1 := hB0.trans (hb1.mono (by simp))
  obtain ⟨q1, q2, q3, q4⟩ := k1.three
  clear hb1 k1
  go_wp2_with fail
  refine (portFault_free a1 a2 a3 n1 c1 n2 c2 n3 c3 _ hf).mono ?_
  rintro e w2 ⟨rfl, hb2⟩
  have hB1 := hB1.trans (hb2.mono hB1.size)
  go_wp2
  go_ret
  exact ⟨rfl, hB1⟩

set_option maxHeartbeats 1000000 in
theorem wf_flash1 (a1 a2 a3 : Option Addr) (n1 c1 n2 c2 n3 c3 : Nat) (p : Int) (w : World) (h : mok n1 n2 n3 = true) (hmax : p ≤ 9223372036854775807) (hm : (p.tmod 1 != 0) = false) (hp : (p == 131072) = false) (hi : ins p 1 0 n1 = true) :
    Calls Tryz.prog 279 #[.agg #[.slice a1 n1 c1, .slice a2 n2 c2, .slice a3 n3 c3], .int .i64 p, .int .i64 1] w fun e w' => e = .returned (.int .i64 3) ∧ Below w.heap.size w w' := by
  have hB0 : Below w.heap.size w (w.alloc (.cells #[.slice a1 n1 c1, .slice a2 n2 c2, .slice a3 n3 c3] 38)) := (Below.refl _ _).alloc (Nat.le_refl _) _
  go_enter Tryz.func279, Tryz.ntmps279
  obtain ⟨l1, l2, l3⟩ := mok1 h
  go_wp2_with fail
  refine (acc_ok1 a1 a2 a3 n1 c1 n2 c2 n3 c3 p _ h hm).mono ?_
  rintro e w1 ⟨rfl, hb1⟩
  have k1 := (Blk.new w #[.slice a1 n1 c1, .slice a2 n2 c2, .slice a3 n3 c3] 38).below hb1
  have hB1 := hB0.trans (hb1.mono (by simp))
  obtain ⟨q1, q2, q3, q4⟩ := k1.three
  clear hb1 k1
  go_wp2_with fail
  refine (holds_any a1 n1 c1 _ 1 0 _ (by omega) (by omega) (by omega) (by omega) (by omega) (by omega)).mono ?_
  rw [hi]
  rintro e wx ⟨rfl, rfl⟩
  go_wp2
  go_ret
  exact ⟨rfl, hB1⟩

set_option maxHeartbeats 1000000 in
theorem wf_bus1 (a1 a2 a3 : Option Addr) (n1 c1 n2 c2 n3 c3 : Nat) (p : Int) (w : World) (h : mok n1 n2 n3 = true) (hmax : p ≤ 9223372036854775807) (hm : (p.tmod 1 != 0) = false) (hp : (p == 131072) = false) (hi : ins p 1 0 n1 = false) (hj : ins p 1 65536 n2 = false) :
    Calls Tryz.prog 279 #[.agg #[.slice a1 n1 c1, .slice a2 n2 c2, .slice a3 n3 c3], .int .i64 p, .int .i64 1] w fun e w' => e = .returned (.int .i64 2) ∧ Below w.heap.size w w' := by
  have hB0 : Below w.heap.size w (w.alloc (.cells #[.slice a1 n1 c1, .slice a2 n2 c2, .slice a3 n3 c3] 38)) := (Below.refl _ _).alloc (Nat.le_refl _) _
  go_enter Tryz.func279, Tryz.ntmps279
  obtain ⟨l1, l2, l3⟩ := mok1 h
  go_wp2_with fail
  refine (acc_ok1 a1 a2 a3 n1 c1 n2 c2 n3 c3 p _ h hm).mono ?_
  rintro e w1 ⟨rfl, hb1⟩
  have k1 := (Blk.new w #[.slice a1 n1 c1, .slice a2 n2 c2, .slice a3 n3 c3] 38).below hb1
  have hB1 := hB0.trans (hb1.mono (by simp))
  obtain ⟨q1, q2, q3, q4⟩ := k1.three
  clear hb1 k1
  go_wp2_with fail
  refine (holds_any a1 n1 c1 _ 1 0 _ (by omega) (by omega) (by omega) (by omega) (by omega) (by omega)).mono ?_
  rw [hi]
  rintro e wx ⟨rfl, rfl⟩
  go_wp2_with fail
  refine (holds_any a2 n2 c2 _ 1 65536 _ (by omega) (by omega) (by omega) (by omega) (by omega) (by omega)).mono ?_
  rw [hj]
  rintro e wx ⟨rfl, rfl⟩
  go_wp2
  go_ret
  exact ⟨rfl, hB1⟩

set_option maxHeartbeats 1000000 in
theorem wf_ram1 (a1 a2 a3 : Option Addr) (n1 c1 n2 c2 n3 c3 : Nat) (p : Int) (w : World) (h : mok n1 n2 n3 = true) (hmax : p ≤ 9223372036854775807) (hm : (p.tmod 1 != 0) = false) (hp : (p == 131072) = false) (hi : ins p 1 0 n1 = false) (hj : ins p 1 65536 n2 = true) :
    Calls Tryz.prog 279 #[.agg #[.slice a1 n1 c1, .slice a2 n2 c2, .slice a3 n3 c3], .int .i64 p, .int .i64 1] w fun e w' => e = .returned (.int .i64 0) ∧ Below w.heap.size w w' := by
  have hB0 : Below w.heap.size w (w.alloc (.cells #[.slice a1 n1 c1, .slice a2 n2 c2, .slice a3 n3 c3] 38)) := (Below.refl _ _).alloc (Nat.le_refl _) _
  go_enter Tryz.func279, Tryz.ntmps279
  obtain ⟨l1, l2, l3⟩ := mok1 h
  go_wp2_with fail
  refine (acc_ok1 a1 a2 a3 n1 c1 n2 c2 n3 c3 p _ h hm).mono ?_
  rintro e w1 ⟨rfl, hb1⟩
  have k1 := (Blk.new w #[.slice a1 n1 c1, .slice a2 n2 c2, .slice a3 n3 c3] 38).below hb1
  have hB1 := hB0.trans (hb1.mono (by simp))
  obtain ⟨q1, q2, q3, q4⟩ := k1.three
  clear hb1 k1
  go_wp2_with fail
  refine (holds_any a1 n1 c1 _ 1 0 _ (by omega) (by omega) (by omega) (by omega) (by omega) (by omega)).mono ?_
  rw [hi]
  rintro e wx ⟨rfl, rfl⟩
  go_wp2_with fail
  refine (holds_any a2 n2 c2 _ 1 65536 _ (by omega) (by omega) (by omega) (by omega) (by omega) (by omega)).mono ?_
  rw [hj]
  rintro e wx ⟨rfl, rfl⟩
  go_wp2
  go_ret
  exact ⟨rfl, hB1⟩

/-- WHAT writeFault SAYS. -/
def wff (n1 n2 n3 : Nat) (p s : Int) : Int :=
  if mok n1 n2 n3 = true ∧ wd s = true then
    if (p.tmod s != 0) = true then 1
    else if p = 131072 then (if 5000 ≤ n3 then 4 else 0)
      else if ins p s 0 n1 = true then 3
      else if ins p s 65536 n2 = true then 0 else 2
  else 2
theorem wrm_fault (n1 n2 n3 : Nat) (x1 x2 x3 : List Int) (p s v : Int) (h : wff n1 n2 n3 p s ≠ 0) : wrm n1 n2 n3 x1 x2 x3 p s v = (x1, x2, x3, wff n1 n2 n3 p s) := by
  unfold wff at h ⊢
  unfold wrm
  split
  · next h1 =>
    rw [if_pos h1] at h
    split
    · rfl
    · next h2 =>
      rw [if_neg h2] at h
      split
      · next h3 =>
        rw [if_pos h3] at h
        split
        · rfl
        · next h4 => rw [if_neg h4] at h; exact absurd rfl h
      · next h3 =>
        rw [if_neg h3] at h
        split
        · rfl
        · next h4 =>
          rw [if_neg h4] at h
          split
          · next h5 => rw [if_pos h5] at h; exact absurd rfl h
          · rfl
  · rfl
theorem wff_zero {n1 n2 n3 : Nat} {p s : Int} (h : wff n1 n2 n3 p s = 0) : mok n1 n2 n3 = true ∧ wd s = true ∧ (p.tmod s != 0) = false ∧ ((p = 131072 ∧ n3 < 5000) ∨ (p ≠ 131072 ∧ ins p s 0 n1 = false ∧ ins p s 65536 n2 = true)) := by
  unfold wff at h
  split at h
  · next h1 =>
    split at h
    · omega
    · next h2 =>
      split at h
      · next h3 =>
        split at h
        · omega
        · exact ⟨h1.1, h1.2, by simpa using h2, Or.inl ⟨h3, by omega⟩⟩
      · next h3 =>
        split at h
        · omega
        · next h4 =>
          split at h
          · next h5 => exact ⟨h1.1, h1.2, by simpa using h2, Or.inr ⟨h3, by simpa using h4, h5⟩⟩
          · omega
  · omega

theorem writeFault_any (a1 a2 a3 : Option Addr) (n1 c1 n2 c2 n3 c3 : Nat) (p s : Int) (w : World) (hmax : p ≤ 9223372036854775807) :
    Calls Tryz.prog 279 #[.agg #[.slice a1 n1 c1, .slice a2 n2 c2, .slice a3 n3 c3], .int .i64 p, .int .i64 s] w fun e w' => e = .returned (.int .i64 (wff n1 n2 n3 p s)) ∧ Below w.heap.size w w' := by
  by_cases hb : mok n1 n2 n3 = true ∧ wd s = true
  · have hb' := hb
    obtain ⟨hm, hs⟩ := hb
    obtain ⟨l1, l2, l3⟩ := mok1 hm
    rcases wd_cases hs with rfl | rfl | rfl
    · by_cases ha : (p.tmod 4 != 0) = true
      · rw [show wff n1 n2 n3 p 4 = 1 from by rw [wff, if_pos hb', if_pos ha]]
        exact wf_mis4 a1 a2 a3 n1 c1 n2 c2 n3 c3 p w hm ha
      · have hna := ha
        have ha : (p.tmod 4 != 0) = false := by simpa using ha
        by_cases hp : p = 131072
        · subst hp
          by_cases hf : 5000 ≤ n3
          · rw [show wff n1 n2 n3 131072 4 = 4 from by rw [wff, if_pos hb', if_neg hna, if_pos rfl, if_pos hf]]
            exact wf_full4 a1 a2 a3 n1 c1 n2 c2 n3 c3 w hm (by omega)
          · rw [show wff n1 n2 n3 131072 4 = 0 from by rw [wff, if_pos hb', if_neg hna, if_pos rfl, if_neg hf]]
            exact wf_free4 a1 a2 a3 n1 c1 n2 c2 n3 c3 w hm (by omega)
        · by_cases hi : ins p 4 0 n1 = true
          · rw [show wff n1 n2 n3 p 4 = 3 from by rw [wff, if_pos hb', if_neg hna, if_neg hp, if_pos hi]]
            exact wf_flash4 a1 a2 a3 n1 c1 n2 c2 n3 c3 p w hm hmax ha (by simpa using hp) hi
          · have hi' : ins p 4 0 n1 = false := by simpa using hi
            by_cases hj : ins p 4 65536 n2 = true
            · rw [show wff n1 n2 n3 p 4 = 0 from by rw [wff, if_pos hb', if_neg hna, if_neg hp, if_neg hi, if_pos hj]]
              exact wf_ram4 a1 a2 a3 n1 c1 n2 c2 n3 c3 p w hm hmax ha (by simpa using hp) hi' hj
            · rw [show wff n1 n2 n3 p 4 = 2 from by rw [wff, if_pos hb', if_neg hna, if_neg hp, if_neg hi, if_neg hj]]
              exact wf_bus4 a1 a2 a3 n1 c1 n2 c2 n3 c3 p w hm hmax ha (by simpa using hp) hi' (by simpa using hj)
    · by_cases ha : (p.tmod 2 != 0) = true
      · rw [show wff n1 n2 n3 p 2 = 1 from by rw [wff, if_pos hb', if_pos ha]]
        exact wf_mis2 a1 a2 a3 n1 c1 n2 c2 n3 c3 p w hm ha
      · have hna := ha
        have ha : (p.tmod 2 != 0) = false := by simpa using ha
        by_cases hp : p = 131072
        · subst hp
          by_cases hf : 5000 ≤ n3
          · rw [show wff n1 n2 n3 131072 2 = 4 from by rw [wff, if_pos hb', if_neg hna, if_pos rfl, if_pos hf]]
            exact wf_full2 a1 a2 a3 n1 c1 n2 c2 n3 c3 w hm (by omega)
          · rw [show wff n1 n2 n3 131072 2 = 0 from by rw [wff, if_pos hb', if_neg hna, if_pos rfl, if_neg hf]]
            exact wf_free2 a1 a2 a3 n1 c1 n2 c2 n3 c3 w hm (by omega)
        · by_cases hi : ins p 2 0 n1 = true
          · rw [show wff n1 n2 n3 p 2 = 3 from by rw [wff, if_pos hb', if_neg hna, if_neg hp, if_pos hi]]
            exact wf_flash2 a1 a2 a3 n1 c1 n2 c2 n3 c3 p w hm hmax ha (by simpa using hp) hi
          · have hi' : ins p 2 0 n1 = false := by simpa using hi
            by_cases hj : ins p 2 65536 n2 = true
            · rw [show wff n1 n2 n3 p 2 = 0 from by rw [wff, if_pos hb', if_neg hna, if_neg hp, if_neg hi, if_pos hj]]
              exact wf_ram2 a1 a2 a3 n1 c1 n2 c2 n3 c3 p w hm hmax ha (by simpa using hp) hi' hj
            · rw [show wff n1 n2 n3 p 2 = 2 from by rw [wff, if_pos hb', if_neg hna, if_neg hp, if_neg hi, if_neg hj]]
              exact wf_bus2 a1 a2 a3 n1 c1 n2 c2 n3 c3 p w hm hmax ha (by simpa using hp) hi' (by simpa using hj)
    · by_cases ha : (p.tmod 1 != 0) = true
      · rw [tmod1] at ha
        exact absurd ha (by simp)
      · have hna := ha
        have ha : (p.tmod 1 != 0) = false := by simp
        by_cases hp : p = 131072
        · subst hp
          by_cases hf : 5000 ≤ n3
          · rw [show wff n1 n2 n3 131072 1 = 4 from by rw [wff, if_pos hb', if_neg hna, if_pos rfl, if_pos hf]]
            exact wf_full1 a1 a2 a3 n1 c1 n2 c2 n3 c3 w hm (by omega)
          · rw [show wff n1 n2 n3 131072 1 = 0 from by rw [wff, if_pos hb', if_neg hna, if_pos rfl, if_neg hf]]
            exact wf_free1 a1 a2 a3 n1 c1 n2 c2 n3 c3 w hm (by omega)
        · by_cases hi : ins p 1 0 n1 = true
          · rw [show wff n1 n2 n3 p 1 = 3 from by rw [wff, if_pos hb', if_neg hna, if_neg hp, if_pos hi]]
            exact wf_flash1 a1 a2 a3 n1 c1 n2 c2 n3 c3 p w hm hmax ha (by simpa using hp) hi
          · have hi' : ins p 1 0 n1 = false := by simpa using hi
            by_cases hj : ins p 1 65536 n2 = true
            · rw [show wff n1 n2 n3 p 1 = 0 from by rw [wff, if_pos hb', if_neg hna, if_neg hp, if_neg hi, if_pos hj]]
              exact wf_ram1 a1 a2 a3 n1 c1 n2 c2 n3 c3 p w hm hmax ha (by simpa using hp) hi' hj
            · rw [show wff n1 n2 n3 p 1 = 2 from by rw [wff, if_pos hb', if_neg hna, if_neg hp, if_neg hi, if_neg hj]]
              exact wf_bus1 a1 a2 a3 n1 c1 n2 c2 n3 c3 p w hm hmax ha (by simpa using hp) hi' (by simpa using hj)
  · rw [show wff n1 n2 n3 p s = 2 from by rw [wff, if_neg hb]]
    refine wf_bad a1 a2 a3 n1 c1 n2 c2 n3 c3 p s w ?_
    by_cases hm : mok n1 n2 n3 = true
    · right; by_cases hs : wd s = true
      · exact absurd ⟨hm, hs⟩ hb
      · simpa using hs
    · left; simpa using hm
end Go.Proofs.YtngdgogjlpjjpadGreat

namespace Go.Proofs.YtngdgogjlpjjpadGreat
open Go.RowKit
set_option linter.unusedVariables false

theorem ob_addr' {w : World} {base n cap : Nat} {a : Option Addr} {zs : List Int} (h : OB w base (.slice a n cap) zs) (hn : n ≠ 0) : ∃ g, a = some ⟨g, 0, none⟩ := by
  obtain ⟨hl, ⟨h0', _⟩ | ⟨g, cap', cur, hv, _⟩⟩ := h.1
  · simp at h0'; exact absurd h0'.2.1 hn
  · simp at hv; exact ⟨g, hv.1⟩
theorem ob_room2 {w : World} {base g n cap m : Nat} {zs : List Int} (h : OB w base (.slice (some ⟨g, 0, none⟩) n cap) zs) (hm : m ≤ n) : Room w g m := by
  obtain ⟨cur, hb, hn⟩ := ob_room h
  exact ⟨cur, hb, by omega⟩

/-- WHAT writeInto LEAVES: the three slices lie at cells o, o + 1, o + 2 of block g. -/
def WiPost (w : World) (g o : Nat) (cs : Array Value) (t : TypeId) (base : Nat) (v1 v2 v3 : Value) (r : List Int × List Int × List Int × Int) (e : Ending) (w' : World) : Prop :=
  ∃ a3 m3 d3, e = .returned (.int .i64 r.2.2.2) ∧ Blk w' g (cs.setIfInBounds (o + 2) (.slice a3 m3 d3)) t ∧ Own3 w' base v1 v2 (.slice a3 m3 d3) r.1 r.2.1 r.2.2.1 ∧ (Value.slice a3 m3 d3).ownBlock ≠ some g ∧ Turn (fun j => j = g ∨ v2.ownBlock = some j ∨ v3.ownBlock = some j) w w'

theorem set_same {cs : Array Value} {i : Nat} {v : Value} (h : cs[i]? = some v) : cs.setIfInBounds i v = cs := by
  apply Array.ext_getElem?
  intro j
  rw [Array.getElem?_setIfInBounds]
  split
  · next e =>
    subst e
    split
    · exact h.symm
    · next hl => rw [Array.getElem?_eq_none (by omega)] at h; cases h
  · rfl

/-- the bytes behind Out, at cell o + 2 of block g -/
theorem own_out {W W' : World} {base g o : Nat} {cs : Array Value} {t : TypeId} {v1 v2 v3 v' : Value} {x1 x2 x3 : List Int} {z : Int} (hk : Blk W g cs t) (ht : t ≠ 5) (h3 : Own3 W base v1 v2 v3 x1 x2 x3)
    (far : ∀ v, v = v1 ∨ v = v2 ∨ v = v3 → v.ownBlock ≠ some g) (hz : 0 ≤ z ∧ z ≤ 255)
    (bs : Nat) (hbs : base ≤ bs) (h1 : ∀ k, v1.ownBlock = some k → k < bs) (h2 : ∀ k, v2.ownBlock = some k → k < bs)
    (ho : W'.ownsRow bs 5 1 v' (x3.length + 1) (x3.map (Value.int .u8) ++ [Value.int .u8 z])) (hg : (W.alloc (.cells #[.int .u8 z] 5)).grownBy W' v3.ownBlock) :
    Blk (W'.setCell ⟨g, o + 2, none⟩ v') g (cs.setIfInBounds (o + 2) v') t ∧ Own3 (W'.setCell ⟨g, o + 2, none⟩ v') base v1 v2 v' x1 x2 (x3 ++ [z]) ∧ v'.ownBlock ≠ some g ∧ Turn (fun j => j = g ∨ v2.ownBlock = some j ∨ v3.ownBlock = some j) W (W'.setCell ⟨g, o + 2, none⟩ v') := by
  have f1 : v1.ownBlock = none ∨ v1.ownBlock ≠ v3.ownBlock := by
    cases e : v1.ownBlock with
    | none => exact Or.inl rfl
    | some k => right; intro e'; exact Nat.lt_irrefl _ (h3.2.2.2.2.1 k k e e'.symm)
  have f2 : v2.ownBlock = none ∨ v2.ownBlock ≠ v3.ownBlock := by
    cases e : v2.ownBlock with
    | none => exact Or.inl rfl
    | some k => right; intro e'; exact Nat.lt_irrefl _ (h3.2.2.2.2.2 k k e e'.symm)
  have ko := grown_blk hg (hk.alloc (.cells #[.int .u8 z] 5)) (fun e => far v3 (Or.inr (Or.inr rfl)) e.symm)
  have hfar : v'.ownBlock ≠ some g := by
    intro e
    obtain ⟨_, ⟨rfl, _⟩ | ⟨g', cap, cur, rfl, hgg, hh, _⟩⟩ := ho
    · simp [Value.ownBlock] at e
    · simp [Value.ownBlock] at e
      subst e
      unfold Blk at ko
      rw [ko] at hh
      simp at hh
      exact ht hh.2
  have o1 := grown_ob hg (own3_alloc h3 (.cells #[.int .u8 z] 5)).1 f1
  have o2 := grown_ob hg (own3_alloc h3 (.cells #[.int .u8 z] 5)).2.1 f2
  have o3 : OB W' bs v' (x3 ++ [z]) := ⟨by simpa using ho, fun y hy => by
    rcases List.mem_append.1 hy with hy | hy
    · exact h3.2.2.1.2 y hy
    · simp at hy; subst hy; exact hz⟩
  refine ⟨ko.set (o + 2) v', ⟨?_, ?_, ?_, h3.2.2.2.1, ?_, ?_⟩, hfar, ?_⟩
  · exact ob_far (g := g) o1 _ _ (far v1 (Or.inl rfl))
  · exact ob_far (g := g) o2 _ _ (far v2 (Or.inr (Or.inl rfl)))
  · exact (ob_far (g := g) o3 _ _ hfar).mono hbs
  · intro k j hk hj
    have := h1 k hk
    have := o3.lt j hj
    omega
  · intro k j hk hj
    have := h2 k hk
    have := o3.lt j hj
    omega
  · have t1 : Turn (fun j => j = g ∨ v2.ownBlock = some j ∨ v3.ownBlock = some j) W (W.alloc (.cells #[.int .u8 z] 5)) := turn_alloc W _
    have t2 : Turn (fun j => j = g ∨ v2.ownBlock = some j ∨ v3.ownBlock = some j) (W.alloc (.cells #[.int .u8 z] 5)) W' :=
      ⟨hg.os, hg.tape, hg.output, hg.size, fun k hk hn => hg.block k hk (fun e => hn (Or.inr (Or.inr e.symm)))⟩
    have t3 : Turn (fun j => j = g ∨ v2.ownBlock = some j ∨ v3.ownBlock = some j) W' (W'.setCell ⟨g, o + 2, none⟩ v') :=
      ⟨rfl, rfl, rfl, by rw [size_setCell]; exact Nat.le_refl _, fun j hj hs => heap_setCell_other _ _ _ _ (fun e => hs (Or.inl e))⟩
    exact (t1.trans t2).trans t3
/-- where the bytes behind Out may lie -/
theorem own_base {W : World} {base : Nat} {v1 v2 v3 : Value} {x1 x2 x3 : List Int} (h : Own3 W base v1 v2 v3 x1 x2 x3) (hb : base ≤ W.heap.size) :
    ∃ bs, base ≤ bs ∧ bs ≤ W.heap.size ∧ (∀ k, v1.ownBlock = some k → k < bs) ∧ (∀ k, v2.ownBlock = some k → k < bs) ∧ W.ownsRow bs 5 1 v3 x3.length (x3.map (Value.int .u8)) := by
  obtain ⟨hl, ⟨h0, h0'⟩ | ⟨g, cap, cur, hv, hg, hh, a1, a2, a3, a4⟩⟩ := h.2.2.1.1
  · exact ⟨W.heap.size, hb, Nat.le_refl _, fun k hk => (h.1.lt k hk).2, fun k hk => (h.2.1.lt k hk).2, hl, .inl ⟨h0, h0'⟩⟩
  · exact ⟨g, hg, Nat.le_of_lt (Blk.lt (w := W) hh), fun k hk => h.2.2.2.2.1 k g hk (by rw [hv]; rfl), fun k hk => h.2.2.2.2.2 k g hk (by rw [hv]; rfl), hl, .inr ⟨g, cap, cur, hv, Nat.le_refl _, hh, a1, a2, a3, a4⟩⟩
/-- bytes of Ram put -/
theorem own_ram {W W' : World} {base g gg : Nat} {v1 v3 : Value} {n cap : Nat} {x1 x2 y2 x3 : List Int} (h3 : Own3 W base v1 (.slice (some ⟨g, 0, none⟩) n cap) v3 x1 x2 x3)
    (ho : Only g W W') (hy : OB W' base (.slice (some ⟨g, 0, none⟩) n cap) y2) : Own3 W' base v1 (.slice (some ⟨g, 0, none⟩) n cap) v3 x1 y2 x3 ∧ Turn (fun j => j = gg ∨ (Value.slice (some ⟨g, 0, none⟩) n cap).ownBlock = some j ∨ v3.ownBlock = some j) W W' := by
  refine ⟨⟨?_, hy, ?_, h3.2.2.2⟩, ?_⟩
  · exact only_ob ho h3.1 (fun e => Nat.lt_irrefl _ (h3.2.2.2.1 g g e rfl))
  · exact only_ob ho h3.2.2.1 (fun e => Nat.lt_irrefl _ (h3.2.2.2.2.2 g g rfl e))
  · obtain ⟨e1, e2, e3, e4, e5⟩ := ho
    refine ⟨by assumption, by assumption, by assumption, by omega, fun k hk hn => e2 k (fun e => hn (Or.inr (Or.inl (by rw [e]; rfl))))⟩

set_option maxHeartbeats 1000000 in
theorem writeInto_fault (a1 a2 a3 : Option Addr) (n1 c1 n2 c2 n3 c3 g o : Nat) (p s v : Int) (w : World) (h1 : w.cell? ⟨g, o, none⟩ = some (.slice a1 n1 c1)) (h2 : w.cell? ⟨g, o + 1, none⟩ = some (.slice a2 n2 c2)) (h3 : w.cell? ⟨g, o + 2, none⟩ = some (.slice a3 n3 c3)) (hmax : p ≤ 9223372036854775807) (hf : wff n1 n2 n3 p s ≠ 0) :
    Calls Tryz.prog 273 #[.pointer (some ⟨g, o, none⟩), .int .i64 p, .int .i64 s, .int .i64 v] w fun e w' => e = .returned (.int .i64 (wff n1 n2 n3 p s)) ∧ Below w.heap.size w w' := by
  have HF := hide (fun w => writeFault_any a1 a2 a3 n1 c1 n2 c2 n3 c3 p s w hmax)
  generalize wff n1 n2 n3 p s = f at *
  have hf' : (f != 0) = true := by simpa using hf
  clear hf
  go_enter Tryz.func273, Tryz.ntmps273
  go_wp2_with fail
  refine (HF.out _).mono ?_
  rintro e w1 ⟨rfl, hb1⟩
  go_wp2
  go_ret
  exact ⟨rfl, hb1⟩
end Go.Proofs.YtngdgogjlpjjpadGreat

namespace Go.Proofs.YtngdgogjlpjjpadGreat
open Go.RowKit
set_option linter.unusedVariables false

set_option maxRecDepth 100000 in
set_option maxHeartbeats 1000000 in
theorem writeInto_port (a1 a2 a3 : Option Addr) (n1 c1 n2 c2 n3 c3 g o base : Nat) (cs : Array Value) (t : TypeId) (x1 x2 x3 : List Int) (s v : Int) (w : World) (hk : Blk w g cs t) (ht : t ≠ 5) (h1 : cs[o]? = some (.slice a1 n1 c1)) (h2 : cs[o + 1]? = some (.slice a2 n2 c2)) (h3 : cs[o + 2]? = some (.slice a3 n3 c3)) (h : Own3 w base (.slice a1 n1 c1) (.slice a2 n2 c2) (.slice a3 n3 c3) x1 x2 x3)
    (far : ∀ v, v = Value.slice a1 n1 c1 ∨ v = Value.slice a2 n2 c2 ∨ v = Value.slice a3 n3 c3 → v.ownBlock ≠ some g) (hb : base ≤ w.heap.size) (hv : -9223372036854775808 ≤ v ∧ v ≤ 9223372036854775807) (hfree : n3 < 5000) (hf : wff n1 n2 n3 131072 s = 0) :
    Calls Tryz.prog 273 #[.pointer (some ⟨g, o, none⟩), .int .i64 131072, .int .i64 s, .int .i64 v] w (WiPost w g o cs t base (.slice a1 n1 c1) (.slice a2 n2 c2) (.slice a3 n3 c3) (x1, x2, x3 ++ [v % 256], 0)) := by
  obtain ⟨i0, hi, hz0, hz1, hz2⟩ := info_parts info8
  have HF := hide (fun w => writeFault_any a1 a2 a3 n1 c1 n2 c2 n3 c3 131072 s w (by omega))
  rw [hf] at HF
  have hx3 : x3.length = n3 := h.2.2.1.bs.1
  have q1 := (hk.cell o).trans h1
  have q2 := (hk.cell (o + 1)).trans h2
  have q3 := (hk.cell (o + 2)).trans h3
  go_enter Tryz.func273, Tryz.ntmps273
  go_wp2_with fail
  refine (HF.out _).mono ?_
  rintro e w1 ⟨rfl, hb1⟩
  have k1 := hk.below hb1
  have O1 := own3_below h hb1
  have t1 : Turn (fun j => j = g ∨ (Value.slice a2 n2 c2).ownBlock = some j ∨ (Value.slice a3 n3 c3).ownBlock = some j) w w1 := turn_below hb1
  have hbs1 := hb1.size
  clear q1 q2 q3 hb1
  have q1 := (k1.cell o).trans h1
  have q2 := (k1.cell (o + 1)).trans h2
  have q3 := (k1.cell (o + 2)).trans h3
  obtain ⟨bs, hbs, hbs', f1, f2, hown⟩ := own_base O1 (by omega)
  rw [hx3] at hown
  have HOWN := hide (hown.alloc (.cells #[.int .u8 (v % 256)] 5))
  have HF1 := hide f1
  have HF2 := hide f2
  have HS := hide hx3
  have K1 := hide k1
  have HO1 := hide O1
  have HT1 := hide t1
  have HFAR := hide far
  have H1 := hide h1
  have H2 := hide h2
  have H3 := hide h3
  clear hown f1 f2 hx3 k1 O1 t1 far h1 h2 h3 h hk hf
  go_wp2_with (at_builtin; refine wpList_append_own _ rfl _ _ 22 rfl bs 5 i0 (.int .u8 0) 1 1 Tryz.underlying22 hi hz0 hz1 hz2 rfl (by decide) _ n3 (x3.map (Value.int .u8)) rfl HOWN.out ⟨w1.heap.size, 0, none⟩ 1 1 [.int .u8 (v % 256)] rfl rfl (cell_one_new _ _ _) (by intro u hu; simp at hu; subst hu; rfl) (by unfold maxLen; omega) (by omega) (by simp; omega) ?_; intro v' w3 hown3 hgr3 _; obtain ⟨a', d', he⟩ := own_shape hown3; subst he; have HX := hide (own_out (o := o) K1.out ht HO1.out HFAR.out (z := v % 256) (by omega) bs hbs HF1.out HF2.out (by rw [HS.out]; exact hown3) hgr3); have kk := grown_blk hgr3 (K1.out.alloc (.cells #[.int .u8 (v % 256)] 5)) (fun e => HFAR.out _ (Or.inr (Or.inr rfl)) e.symm); have q1 := (kk.cell o).trans H1.out; have q2 := (kk.cell (o + 1)).trans H2.out; have q3 := (kk.cell (o + 2)).trans H3.out; have q4 := kk.frozen (o + 2); clear kk hown3 hgr3)
  go_ret
  obtain ⟨y1, y2, y3, y4⟩ := HX.out
  exact ⟨a', n3 + 1, d', rfl, y1, y2, y3, HT1.out.trans y4⟩

set_option maxHeartbeats 1000000 in
theorem writeInto_ram4 (a1 a2 a3 : Option Addr) (n1 c1 n2 c2 n3 c3 g o base k : Nat) (cs : Array Value) (t : TypeId) (x1 x2 x3 : List Int) (p v : Int) (w : World) (hk : Blk w g cs t) (h1 : cs[o]? = some (.slice a1 n1 c1)) (h2 : cs[o + 1]? = some (.slice a2 n2 c2)) (h3 : cs[o + 2]? = some (.slice a3 n3 c3)) (h : Own3 w base (.slice a1 n1 c1) (.slice a2 n2 c2) (.slice a3 n3 c3) x1 x2 x3)
    (far : ∀ v, v = Value.slice a1 n1 c1 ∨ v = Value.slice a2 n2 c2 ∨ v = Value.slice a3 n3 c3 → v.ownBlock ≠ some g) (hb : base ≤ w.heap.size) (hv : -9223372036854775808 ≤ v ∧ v ≤ 9223372036854775807) (hpk : p - 65536 = (k : Int)) (hkn : k + 4 ≤ n2) (hn2 : n2 ≤ 16384) (hf : wff n1 n2 n3 p 4 = 0) :
    Calls Tryz.prog 273 #[.pointer (some ⟨g, o, none⟩), .int .i64 p, .int .i64 4, .int .i64 v] w (WiPost w g o cs t base (.slice a1 n1 c1) (.slice a2 n2 c2) (.slice a3 n3 c3) (x1, put x2 k v 4, x3, 0)) := by
  have HF := hide (fun w => writeFault_any a1 a2 a3 n1 c1 n2 c2 n3 c3 p 4 w (by omega))
  rw [hf] at HF
  have hp : (p == 131072) = false := by simp; omega
  have hp0 : 65536 ≤ p := by omega
  have hp1 : p ≤ 131072 := by omega
  obtain ⟨g2, rfl⟩ := ob_addr' h.2.1 (by omega)
  have q1 := (hk.cell o).trans h1
  have q2 := (hk.cell (o + 1)).trans h2
  have q3 := (hk.cell (o + 2)).trans h3
  clear hf
  go_enter Tryz.func273, Tryz.ntmps273
  go_wp2_with fail
  refine (HF.out _).mono ?_
  rintro e w1 ⟨rfl, hb1⟩
  have k1 := hk.below hb1
  have O1 := own3_below h hb1
  have t1 : Turn (fun j => j = g ∨ (Value.slice (some ⟨g2, 0, none⟩) n2 c2).ownBlock = some j ∨ (Value.slice a3 n3 c3).ownBlock = some j) w w1 := turn_below hb1
  have hcap := (O1.2.1.bs).2.2.2.2
  clear q1 q2 q3 hb1
  have q1 := (k1.cell o).trans h1
  have q2 := (k1.cell (o + 1)).trans h2
  have q3 := (k1.cell (o + 2)).trans h3
  have K1 := hide k1
  have HO1 := hide O1
  have HT1 := hide t1
  have HFAR := hide far
  have H3 := hide h3
  clear k1 O1 t1 far h1 h2 h3 h hk
  go_wp2_with fail
  refine (putBytes_4 g2 (n2 - k) (c2 - k) k v _ (ob_room2 HO1.out.2.1 (by omega)) (by omega) hv).mono ?_
  rintro e w3 ⟨rfl, rfl⟩
  obtain ⟨y1, y2⟩ := own_ram (gg := g) HO1.out (only_putD4 g2 k v _) (ob_putD4 HO1.out.2.1 k v (by omega))
  have kk := only_blk (only_putD4 g2 k v _) K1.out (fun e => HFAR.out _ (Or.inr (Or.inl rfl)) (by rw [e]; rfl))
  have HY := hide (And.intro y1 y2)
  have KK := hide kk
  generalize putD4 w1 g2 k v = w3 at *
  clear y1 y2 kk q1 q2 q3
  go_wp2
  go_ret
  exact ⟨a3, n3, c3, rfl, by rw [set_same H3.out]; exact KK.out, HY.out.1, HFAR.out _ (Or.inr (Or.inr rfl)), HT1.out.trans HY.out.2⟩

set_option maxHeartbeats 1000000 in
theorem writeInto_ram2 (a1 a2 a3 : Option Addr) (n1 c1 n2 c2 n3 c3 g o base k : Nat) (cs : Array Value) (t : TypeId) (x1 x2 x3 : List Int) (p v : Int) (w : World) (hk : Blk w g cs t) (h1 : cs[o]? = some (.slice a1 n1 c1)) (h2 : cs[o + 1]? = some (.slice a2 n2 c2)) (h3 : cs[o + 2]? = some (.slice a3 n3 c3)) (h : Own3 w base (.slice a1 n1 c1) (.slice a2 n2 c2) (.slice a3 n3 c3) x1 x2 x3)
    (far : ∀ v, v = Value.slice a1 n1 c1 ∨ v = Value.slice a2 n2 c2 ∨ v = Value.slice a3 n3 c3 → v.ownBlock ≠ some g) (hb : base ≤ w.heap.size) (hv : -9223372036854775808 ≤ v ∧ v ≤ 9223372036854775807) (hpk : p - 65536 = (k : Int)) (hkn : k + 2 ≤ n2) (hn2 : n2 ≤ 16384) (hf : wff n1 n2 n3 p 2 = 0) :
    Calls Tryz.prog 273 #[.pointer (some ⟨g, o, none⟩), .int .i64 p, .int .i64 2, .int .i64 v] w (WiPost w g o cs t base (.slice a1 n1 c1) (.slice a2 n2 c2) (.slice a3 n3 c3) (x1, put x2 k v 2, x3, 0)) := by
  have HF := hide (fun w => writeFault_any a1 a2 a3 n1 c1 n2 c2 n3 c3 p 2 w (by omega))
  rw [hf] at HF
  have hp : (p == 131072) = false := by simp; omega
  have hp0 : 65536 ≤ p := by omega
  have hp1 : p ≤ 131072 := by omega
  obtain ⟨g2, rfl⟩ := ob_addr' h.2.1 (by omega)
  have q1 := (hk.cell o).trans h1
  have q2 := (hk.cell (o + 1)).trans h2
  have q3 := (hk.cell (o + 2)).trans h3
  clear hf
  go_enter Tryz.func273, Tryz.ntmps273
  go_wp2_with fail
  refine (HF.out _).mono ?_
  rintro e w1 ⟨rfl, hb1⟩
  have k1 := hk.below hb1
  have O1 := own3_below h hb1
  have t1 : Turn (fun j => j = g ∨ (Value.slice (some ⟨g2, 0, none⟩) n2 c2).ownBlock = some j ∨ (Value.slice a3 n3 c3).ownBlock = some j) w w1 := turn_below hb1
  have hcap := (O1.2.1.bs).2.2.2.2
  clear q1 q2 q3 hb1
  have q1 := (k1.cell o).trans h1
  have q2 := (k1.cell (o + 1)).trans h2
  have q3 := (k1.cell (o + 2)).trans h3
  have K1 := hide k1
  have HO1 := hide O1
  have HT1 := hide t1
  have HFAR := hide far
  have H3 := hide h3
  clear k1 O1 t1 far h1 h2 h3 h hk
  go_wp2_with fail
  refine (putBytes_2 g2 (n2 - k) (c2 - k) k v _ (ob_room2 HO1.out.2.1 (by omega)) (by omega) hv).mono ?_
  rintro e w3 ⟨rfl, rfl⟩
  obtain ⟨y1, y2⟩ := own_ram (gg := g) HO1.out (only_putD2 g2 k v _) (ob_putD2 HO1.out.2.1 k v (by omega))
  have kk := only_blk (only_putD2 g2 k v _) K1.out (fun e => HFAR.out _ (Or.inr (Or.inl rfl)) (by rw [e]; rfl))
  have HY := hide (And.intro y1 y2)
  have KK := hide kk
  generalize putD2 w1 g2 k v = w3 at *
  clear y1 y2 kk q1 q2 q3
  go_wp2
  go_ret
  exact ⟨a3, n3, c3, rfl, by rw [set_same H3.out]; exact KK.out, HY.out.1, HFAR.out _ (Or.inr (Or.inr rfl)), HT1.out.trans HY.out.2⟩

set_option maxHeartbeats 1000000 in
theorem writeInto_ram1 (a1 a2 a3 : Option Addr) (n1 c1 n2 c2 n3 c3 g o base k : Nat) (cs : Array Value) (t : TypeId) (x1 x2 x3 : List Int) (p v : Int) (w : World) (hk : Blk w g cs t) (h1 : cs[o]? = some (.slice a1 n1 c1)) (h2 : cs[o + 1]? = some (.slice a2 n2 c2)) (h3 : cs[o + 2]? = some (.slice a3 n3 c3)) (h : Own3 w base (.slice a1 n1 c1) (.slice a2 n2 c2) (.slice a3 n3 c3) x1 x2 x3)
    (far : ∀ v, v = Value.slice a1 n1 c1 ∨ v = Value.slice a2 n2 c2 ∨ v = Value.slice a3 n3 c3 → v.ownBlock ≠ some g) (hb : base ≤ w.heap.size) (hv : -9223372036854775808 ≤ v ∧ v ≤ 9223372036854775807) (hpk : p - 65536 = (k : Int)) (hkn : k + 1 ≤ n2) (hn2 : n2 ≤ 16384) (hf : wff n1 n2 n3 p 1 = 0) :
    Calls Tryz.prog 273 #[.pointer (some ⟨g, o, none⟩), .int .i64 p, .int .i64 1, .int .i64 v] w (WiPost w g o cs t base (.slice a1 n1 c1) (.slice a2 n2 c2) (.slice a3 n3 c3) (x1, put x2 k v 1, x3, 0)) := by
  have HF := hide (fun w => writeFault_any a1 a2 a3 n1 c1 n2 c2 n3 c3 p 1 w (by omega))
  rw [hf] at HF
  have hp : (p == 131072) = false := by simp; omega
  have hp0 : 65536 ≤ p := by omega
  have hp1 : p ≤ 131072 := by omega
  obtain ⟨g2, rfl⟩ := ob_addr' h.2.1 (by omega)
  have q1 := (hk.cell o).trans h1
  have q2 := (hk.cell (o + 1)).trans h2
  have q3 := (hk.cell (o + 2)).trans h3
  clear hf
  go_enter Tryz.func273, Tryz.ntmps273
  go_wp2_with fail
  refine (HF.out _).mono ?_
  rintro e w1 ⟨rfl, hb1⟩
  have k1 := hk.below hb1
  have O1 := own3_below h hb1
  have t1 : Turn (fun j => j = g ∨ (Value.slice (some ⟨g2, 0, none⟩) n2 c2).ownBlock = some j ∨ (Value.slice a3 n3 c3).ownBlock = some j) w w1 := turn_below hb1
  have hcap := (O1.2.1.bs).2.2.2.2
  clear q1 q2 q3 hb1
  have q1 := (k1.cell o).trans h1
  have q2 := (k1.cell (o + 1)).trans h2
  have q3 := (k1.cell (o + 2)).trans h3
  have K1 := hide k1
  have HO1 := hide O1
  have HT1 := hide t1
  have HFAR := hide far
  have H3 := hide h3
  clear k1 O1 t1 far h1 h2 h3 h hk
  go_wp2_with fail
  refine (putBytes_1 g2 (n2 - k) (c2 - k) k v _ (ob_room2 HO1.out.2.1 (by omega)) (by omega) hv).mono ?_
  rintro e w3 ⟨rfl, rfl⟩
  obtain ⟨y1, y2⟩ := own_ram (gg := g) HO1.out (only_putD1 g2 k v _) (ob_putD1 HO1.out.2.1 k v (by omega))
  have kk := only_blk (only_putD1 g2 k v _) K1.out (fun e => HFAR.out _ (Or.inr (Or.inl rfl)) (by rw [e]; rfl))
  have HY := hide (And.intro y1 y2)
  have KK := hide kk
  generalize putD1 w1 g2 k v = w3 at *
  clear y1 y2 kk q1 q2 q3
  go_wp2
  go_ret
  exact ⟨a3, n3, c3, rfl, by rw [set_same H3.out]; exact KK.out, HY.out.1, HFAR.out _ (Or.inr (Or.inr rfl)), HT1.out.trans HY.out.2⟩

theorem writeInto_any (a1 a2 a3 : Option Addr) (n1 c1 n2 c2 n3 c3 g o base : Nat) (cs : Array Value) (t : TypeId) (x1 x2 x3 : List Int) (p s v : Int) (w : World) (hk : Blk w g cs t) (ht : t ≠ 5) (h1 : cs[o]? = some (.slice a1 n1 c1)) (h2 : cs[o + 1]? = some (.slice a2 n2 c2)) (h3 : cs[o + 2]? = some (.slice a3 n3 c3)) (h : Own3 w base (.slice a1 n1 c1) (.slice a2 n2 c2) (.slice a3 n3 c3) x1 x2 x3)
    (far : ∀ v, v = Value.slice a1 n1 c1 ∨ v = Value.slice a2 n2 c2 ∨ v = Value.slice a3 n3 c3 → v.ownBlock ≠ some g) (hb : base ≤ w.heap.size) (hv : -9223372036854775808 ≤ v ∧ v ≤ 9223372036854775807) (hmax : p ≤ 9223372036854775807) :
    Calls Tryz.prog 273 #[.pointer (some ⟨g, o, none⟩), .int .i64 p, .int .i64 s, .int .i64 v] w (WiPost w g o cs t base (.slice a1 n1 c1) (.slice a2 n2 c2) (.slice a3 n3 c3) (wrm n1 n2 n3 x1 x2 x3 p s v)) := by
  by_cases hf : wff n1 n2 n3 p s = 0
  · obtain ⟨hm, hs, ha, ⟨rfl, hn⟩ | ⟨hp, hi, hj⟩⟩ := wff_zero hf
    · rw [show wrm n1 n2 n3 x1 x2 x3 131072 s v = (x1, x2, x3 ++ [v % 256], 0) from by rw [wrm, if_pos ⟨hm, hs⟩, if_neg (by rw [ha]; simp), if_pos rfl, if_neg (by omega)]]
      exact writeInto_port a1 a2 a3 n1 c1 n2 c2 n3 c3 g o base cs t x1 x2 x3 s v w hk ht h1 h2 h3 h far hb hv hn hf
    · have hj' := hj
      simp [ins] at hj'
      obtain ⟨l1, l2, l3⟩ := mok1 hm
      obtain ⟨k, hk'⟩ := Int.eq_ofNat_of_zero_le (show 0 ≤ p - 65536 by omega)
      have e : wrm n1 n2 n3 x1 x2 x3 p s v = (x1, put x2 k v s.toNat, x3, 0) := by
        rw [wrm, if_pos ⟨hm, hs⟩, if_neg (by rw [ha]; simp), if_neg hp, if_neg (by rw [hi]; simp), if_pos hj, hk']
        rfl
      rw [e]
      rcases wd_cases hs with rfl | rfl | rfl
      · exact writeInto_ram4 a1 a2 a3 n1 c1 n2 c2 n3 c3 g o base k cs t x1 x2 x3 p v w hk h1 h2 h3 h far hb hv hk' (by omega) l2 hf
      · exact writeInto_ram2 a1 a2 a3 n1 c1 n2 c2 n3 c3 g o base k cs t x1 x2 x3 p v w hk h1 h2 h3 h far hb hv hk' (by omega) l2 hf
      · exact writeInto_ram1 a1 a2 a3 n1 c1 n2 c2 n3 c3 g o base k cs t x1 x2 x3 p v w hk h1 h2 h3 h far hb hv hk' (by omega) l2 hf
  · rw [wrm_fault n1 n2 n3 x1 x2 x3 p s v hf]
    refine (writeInto_fault a1 a2 a3 n1 c1 n2 c2 n3 c3 g o p s v w ((hk.cell o).trans h1) ((hk.cell (o + 1)).trans h2) ((hk.cell (o + 2)).trans h3) hmax hf).mono fun e w' he => ?_
    exact ⟨a3, n3, c3, he.1, by rw [set_same h3]; exact hk.below he.2, own3_below h he.2, far _ (Or.inr (Or.inr rfl)), turn_below he.2⟩
end Go.Proofs.YtngdgogjlpjjpadGreat
