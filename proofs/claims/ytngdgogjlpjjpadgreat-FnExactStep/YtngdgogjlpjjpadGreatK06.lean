import Derived.Test.YtngdgogjlpjjpadGreatK05
import Derived.Test.YtngdgogjlpjjpadGreatK00
import Derived.Deep.RegionHeld3
namespace Go.Proofs.YtngdgogjlpjjpadGreat
open Go.RowKit
set_option linter.unusedVariables false

set_option maxHeartbeats 1000000 in
theorem acc_bad (a1 a2 a3 : Option Addr) (n1 c1 n2 c2 n3 c3 : Nat) (p s : Int) (w : World) (h : mok n1 n2 n3 = false ∨ wd s = false) :
    Calls Tryz.prog 158 #[.agg #[.slice a1 n1 c1, .slice a2 n2 c2, .slice a3 n3 c3], .int .i64 p, .int .i64 s] w fun e w' => e = .returned (.int .i64 2) ∧ Below w.heap.size w w' := by
  have hB0 : Below w.heap.size w (w.alloc (.cells #[.slice a1 n1 c1, .slice a2 n2 c2, .slice a3 n3 c3] 38)) := (Below.refl _ _).alloc (Nat.le_refl _) _
  by_cases hm : mok n1 n2 n3 = false
  · clear h
    go_enter Tryz.func158, Tryz.ntmps158
    go_wp2_with fail
    refine (iMemOk_any a1 a2 a3 n1 c1 n2 c2 n3 c3 _).mono ?_
    rw [hm]
    rintro e w1 ⟨rfl, hb1⟩
    go_wp2
    go_ret
    exact ⟨rfl, hB0.trans (hb1.mono (by simp))⟩
  · have hs : wd s = false := by rcases h with h | h; exact absurd h hm; exact h
    have hm : mok n1 n2 n3 = true := by simpa using hm
    clear h
    go_enter Tryz.func158, Tryz.ntmps158
    go_wp2_with fail
    refine (iMemOk_any a1 a2 a3 n1 c1 n2 c2 n3 c3 _).mono ?_
    rw [hm]
    rintro e w1 ⟨rfl, hb1⟩
    go_wp2_with fail
    refine (isWidth_any s _).mono ?_
    rw [hs]
    rintro e w2 ⟨rfl, rfl⟩
    go_wp2
    go_ret
    exact ⟨rfl, hB0.trans (hb1.mono (by simp))⟩

set_option maxHeartbeats 1000000 in
theorem acc_mis4 (a1 a2 a3 : Option Addr) (n1 c1 n2 c2 n3 c3 : Nat) (p : Int) (w : World) (h : mok n1 n2 n3 = true) (hm : (p.tmod 4 != 0) = true) :
    Calls Tryz.prog 158 #[.agg #[.slice a1 n1 c1, .slice a2 n2 c2, .slice a3 n3 c3], .int .i64 p, .int .i64 4] w fun e w' => e = .returned (.int .i64 1) ∧ Below w.heap.size w w' := by
  have hB0 : Below w.heap.size w (w.alloc (.cells #[.slice a1 n1 c1, .slice a2 n2 c2, .slice a3 n3 c3] 38)) := (Below.refl _ _).alloc (Nat.le_refl _) _
  go_enter Tryz.func158, Tryz.ntmps158
  go_wp2_with fail
  refine (iMemOk_any a1 a2 a3 n1 c1 n2 c2 n3 c3 _).mono ?_
  rw [h]
  rintro e w1 ⟨rfl, hb1⟩
  have k1 := (Blk.new w #[.slice a1 n1 c1, .slice a2 n2 c2, .slice a3 n3 c3] 38).below hb1
  have hB1 := hB0.trans (hb1.mono (by simp))
  obtain ⟨q1, q2, q3, q4⟩ := k1.three
  clear hb1 k1
  go_wp2_with fail
  refine (isWidth_any 4 _).mono ?_
  rw [wd4]
  rintro e w2 ⟨rfl, rfl⟩
  go_wp2
  go_ret
  exact ⟨rfl, hB1⟩

set_option maxHeartbeats 1000000 in
theorem acc_ok4 (a1 a2 a3 : Option Addr) (n1 c1 n2 c2 n3 c3 : Nat) (p : Int) (w : World) (h : mok n1 n2 n3 = true) (hm : (p.tmod 4 != 0) = false) :
    Calls Tryz.prog 158 #[.agg #[.slice a1 n1 c1, .slice a2 n2 c2, .slice a3 n3 c3], .int .i64 p, .int .i64 4] w fun e w' => e = .returned (.int .i64 0) ∧ Below w.heap.size w w' := by
  have hB0 : Below w.heap.size w (w.alloc (.cells #[.slice a1 n1 c1, .slice a2 n2 c2, .slice a3 n3 c3] 38)) := (Below.refl _ _).alloc (Nat.le_refl _) _
  go_enter Tryz.func158, Tryz.ntmps158
  go_wp2_with fail
  refine (iMemOk_any a1 a2 a3 n1 c1 n2 c2 n3 c3 _).mono ?_
  rw [h]
  rintro e w1 ⟨rfl, hb1⟩
  have k1 := (Blk.new w #[.slice a1 n1 c1, .slice a2 n2 c2, .slice a3 n3 c3] 38).below hb1
  have hB1 := hB0.trans (hb1.mono (by simp))
  obtain ⟨q1, q2, q3, q4⟩ := k1.three
  clear hb1 k1
  go_wp2_with fail
  refine (isWidth_any 4 _).mono ?_
  rw [wd4]
  rintro e w2 ⟨rfl, rfl⟩
  go_wp2
  go_ret
  exact ⟨rfl, hB1⟩

set_option maxHeartbeats 1000000 in
theorem acc_mis2 (a1 a2 a3 : Option Addr) (n1 c1 n2 c2 n3 c3 : Nat) (p : Int) (w : World) (h : mok n1 n2 n3 = true) (hm : (p.tmod 2 != 0) = true) :
    Calls Tryz.prog 158 #[.agg #[.slice a1 n1 c1, .slice a2 n2 c2, .slice a3 n3 c3], .int .i64 p, .int .i64 2] w fun e w' => e = .returned (.int .i64 1) ∧ Below w.heap.size w w' := by
  have hB0 : Below w.heap.size w (w.alloc (.cells #[.slice a1 n1 c1, .slice a2 n2 c2, .slice a3 n3 c3] 38)) := (Below.refl _ _).alloc (Nat.le_refl _) _
  go_enter Tryz.func158, Tryz.ntmps158
  go_wp2_with fail
  refine (iMemOk_any a1 a2 a3 n1 c1 n2 c2 n3 c3 _).mono ?_
  rw [h]
  rintro e w1 ⟨rfl, hb1⟩
  have k1 := (Blk.new w #[.slice a1 n1 c1, .slice a2 n2 c2, .slice a3 n3 c3] 38).below hb1
  have hB1 := hB0.trans (hb1.mono (by simp))
  obtain ⟨q1, q2, q3, q4⟩ := k1.three
  clear hb1 k1
  go_wp2_with fail
  refine (isWidth_any 2 _).mono ?_
  rw [wd2]
  rintro e w2 ⟨rfl, rfl⟩
  go_wp2
  go_ret
  exact ⟨rfl, hB1⟩

set_option maxHeartbeats 1000000 in
theorem acc_ok2 (a1 a2 a3 : Option Addr) (n1 c1 n2 c2 n3 c3 : Nat) (p : Int) (w : World) (h : mok n1 n2 n3 = true) (hm : (p.tmod 2 != 0) = false) :
    Calls Tryz.prog 158 #[.agg #[.slice a1 n1 c1, .slice a2 n2 c2, .slice a3 n3 c3], .int .i64 p, .int .i64 2] w fun e w' => e = .returned (.int .i64 0) ∧ Below w.heap.size w w' := by
  have hB0 : Below w.heap.size w (w.alloc (.cells #[.slice a1 n1 c1, .slice a2 n2 c2, .slice a3 n3 c3] 38)) := (Below.refl _ _).alloc (Nat.le_refl _) _
  go_enter Tryz.func158, Tryz.ntmps158
  go_wp2_with fail
  refine (iMemOk_any a1 a2 a3 n1 c1 n2 c2 n3 c3 _).mono ?_
  rw [h]
  rintro e w1 ⟨rfl, hb1⟩
  have k1 := (Blk.new w #[.slice a1 n1 c1, .slice a2 n2 c2, .slice a3 n3 c3] 38).below hb1
  have hB1 := hB0.trans (hb1.mono (by simp))
  obtain ⟨q1, q2, q3, q4⟩ := k1.three
  clear hb1 k1
  go_wp2_with fail
  refine (isWidth_any 2 _).mono ?_
  rw [wd2]
  rintro e w2 ⟨rfl, rfl⟩
  go_wp2
  go_ret
  exact ⟨rfl, hB1⟩

set_option maxHeartbeats 1000000 in
theorem acc_ok1 (a1 a2 a3 : Option Addr) (n1 c1 n2 c2 n3 c3 : Nat) (p : Int) (w : World) (h : mok n1 n2 n3 = true) (hm : (p.tmod 1 != 0) = false) :
    Calls Tryz.prog 158 #[.agg #[.slice a1 n1 c1, .slice a2 n2 c2, .slice a3 n3 c3], .int .i64 p, .int .i64 1] w fun e w' => e = .returned (.int .i64 0) ∧ Below w.heap.size w w' := by
  have hB0 : Below w.heap.size w (w.alloc (.cells #[.slice a1 n1 c1, .slice a2 n2 c2, .slice a3 n3 c3] 38)) := (Below.refl _ _).alloc (Nat.le_refl _) _
  go_enter Tryz.func158, Tryz.ntmps158
  go_wp2_with fail
  refine (iMemOk_any a1 a2 a3 n1 c1 n2 c2 n3 c3 _).mono ?_
  rw [h]
  rintro e w1 ⟨rfl, hb1⟩
  have k1 := (Blk.new w #[.slice a1 n1 c1, .slice a2 n2 c2, .slice a3 n3 c3] 38).below hb1
  have hB1 := hB0.trans (hb1.mono (by simp))
  obtain ⟨q1, q2, q3, q4⟩ := k1.three
  clear hb1 k1
  go_wp2_with fail
  refine (isWidth_any 1 _).mono ?_
  rw [wd1]
  rintro e w2 ⟨rfl, rfl⟩
  go_wp2
  go_ret
  exact ⟨rfl, hB1⟩

set_option maxHeartbeats 1000000 in
theorem iRead_bad (a1 a2 a3 : Option Addr) (n1 c1 n2 c2 n3 c3 : Nat) (p s : Int) (w : World) (h : mok n1 n2 n3 = false ∨ wd s = false) :
    Calls Tryz.prog 75 #[.agg #[.slice a1 n1 c1, .slice a2 n2 c2, .slice a3 n3 c3], .int .i64 p, .int .i64 s] w fun e w' => e = .returned (.tuple #[.int .i64 0, .int .i64 2]) ∧ Below w.heap.size w w' := by
  have hB0 : Below w.heap.size w (w.alloc (.cells #[.slice a1 n1 c1, .slice a2 n2 c2, .slice a3 n3 c3] 38)) := (Below.refl _ _).alloc (Nat.le_refl _) _
  go_enter Tryz.func75, Tryz.ntmps75
  go_wp2_with fail
  refine (acc_bad a1 a2 a3 n1 c1 n2 c2 n3 c3 _ s _ h).mono ?_
  rintro e w1 ⟨rfl, hb1⟩
  have k1 := (Blk.new w #[.slice a1 n1 c1, .slice a2 n2 c2, .slice a3 n3 c3] 38).below hb1
  have hB1 := hB0.trans (hb1.mono (by simp))
  obtain ⟨q1, q2, q3, q4⟩ := k1.three
  clear hb1 k1
  clear h
  go_wp2
  go_ret2
  exact ⟨rfl, hB1⟩

set_option maxHeartbeats 1000000 in
theorem iRead_mis4 (a1 a2 a3 : Option Addr) (p : Int) (n1 c1 n2 c2 n3 c3 : Nat) (w : World) (h : mok n1 n2 n3 = true) (hm : (p.tmod 4 != 0) = true) :
    Calls Tryz.prog 75 #[.agg #[.slice a1 n1 c1, .slice a2 n2 c2, .slice a3 n3 c3], .int .i64 p, .int .i64 4] w fun e w' => e = .returned (.tuple #[.int .i64 0, .int .i64 1]) ∧ Below w.heap.size w w' := by
  have hB0 : Below w.heap.size w (w.alloc (.cells #[.slice a1 n1 c1, .slice a2 n2 c2, .slice a3 n3 c3] 38)) := (Below.refl _ _).alloc (Nat.le_refl _) _
  obtain ⟨hn1, hn2, hn3⟩ := mok1 h
  go_enter Tryz.func75, Tryz.ntmps75
  go_wp2_with fail
  refine (acc_mis4 a1 a2 a3 n1 c1 n2 c2 n3 c3 _ _ h hm).mono ?_
  rintro e w1 ⟨rfl, hb1⟩
  have k1 := (Blk.new w #[.slice a1 n1 c1, .slice a2 n2 c2, .slice a3 n3 c3] 38).below hb1
  have hB1 := hB0.trans (hb1.mono (by simp))
  obtain ⟨q1, q2, q3, q4⟩ := k1.three
  clear hb1 k1
  go_wp2
  go_ret2
  exact ⟨rfl, hB1⟩

set_option maxHeartbeats 1000000 in
theorem iRead_port4 (a1 a2 a3 : Option Addr) (n1 c1 n2 c2 n3 c3 : Nat) (w : World) (h : mok n1 n2 n3 = true)  :
    Calls Tryz.prog 75 #[.agg #[.slice a1 n1 c1, .slice a2 n2 c2, .slice a3 n3 c3], .int .i64 131072, .int .i64 4] w fun e w' => e = .returned (.tuple #[.int .i64 0, .int .i64 4]) ∧ Below w.heap.size w w' := by
  have hB0 : Below w.heap.size w (w.alloc (.cells #[.slice a1 n1 c1, .slice a2 n2 c2, .slice a3 n3 c3] 38)) := (Below.refl _ _).alloc (Nat.le_refl _) _
  obtain ⟨hn1, hn2, hn3⟩ := mok1 h
  go_enter Tryz.func75, Tryz.ntmps75
  go_wp2_with fail
  refine (acc_ok4 a1 a2 a3 n1 c1 n2 c2 n3 c3 _ _ h (by decide)).mono ?_
  rintro e w1 ⟨rfl, hb1⟩
  have k1 := (Blk.new w #[.slice a1 n1 c1, .slice a2 n2 c2, .slice a3 n3 c3] 38).below hb1
  have hB1 := hB0.trans (hb1.mono (by simp))
  obtain ⟨q1, q2, q3, q4⟩ := k1.three
  clear hb1 k1
  go_wp2
  go_ret2
  exact ⟨rfl, hB1⟩

set_option maxHeartbeats 1000000 in
theorem iRead_none4 (a1 a2 a3 : Option Addr) (p : Int) (n1 c1 n2 c2 n3 c3 : Nat) (w : World) (h : mok n1 n2 n3 = true) (hmax : p ≤ 9223372036854775807) (hm : (p.tmod 4 != 0) = false) (hp : (p == 131072) = false) (hi : ins p 4 0 n1 = false) (hj : ins p 4 65536 n2 = false) :
    Calls Tryz.prog 75 #[.agg #[.slice a1 n1 c1, .slice a2 n2 c2, .slice a3 n3 c3], .int .i64 p, .int .i64 4] w fun e w' => e = .returned (.tuple #[.int .i64 0, .int .i64 2]) ∧ Below w.heap.size w w' := by
  have hB0 : Below w.heap.size w (w.alloc (.cells #[.slice a1 n1 c1, .slice a2 n2 c2, .slice a3 n3 c3] 38)) := (Below.refl _ _).alloc (Nat.le_refl _) _
  obtain ⟨hn1, hn2, hn3⟩ := mok1 h
  go_enter Tryz.func75, Tryz.ntmps75
  go_wp2_with fail
  refine (acc_ok4 a1 a2 a3 n1 c1 n2 c2 n3 c3 _ _ h hm).mono ?_
  rintro e w1 ⟨rfl, hb1⟩
  have k1 := (Blk.new w #[.slice a1 n1 c1, .slice a2 n2 c2, .slice a3 n3 c3] 38).below hb1
  have hB1 := hB0.trans (hb1.mono (by simp))
  obtain ⟨q1, q2, q3, q4⟩ := k1.three
  clear hb1 k1
  go_wp2_with fail
  refine (holds_any a1 n1 c1 _ 4 0 _ (by omega) (by omega) (by omega) (by omega) (by omega) (by omega)).mono ?_
  rw [hi]
  rintro e w2 ⟨rfl, rfl⟩
  go_wp2_with fail
  refine (holds_any a2 n2 c2 _ 4 65536 _ (by omega) (by omega) (by omega) (by omega) (by omega) (by omega)).mono ?_
  rw [hj]
  rintro e w2 ⟨rfl, rfl⟩
  go_wp2
  go_ret2
  exact ⟨rfl, hB1⟩

set_option maxHeartbeats 1000000 in
theorem iRead_flash4 (b off : Nat) (a2 a3 : Option Addr) (x1 : List Int) (k : Nat) (n1 c1 n2 c2 n3 c3 : Nat) (w : World) (h : mok n1 n2 n3 = true) (h1 : BS w (some ⟨b, off, none⟩) n1 c1 x1) (hm : ((k : Int) % 4 != 0) = false) (hk : k + 4 ≤ n1) :
    Calls Tryz.prog 75 #[.agg #[.slice (some ⟨b, off, none⟩) n1 c1, .slice a2 n2 c2, .slice a3 n3 c3], .int .i64 k, .int .i64 4] w fun e w' => e = .returned (.tuple #[.int .i64 (low ((x1.drop k).take 4)), .int .i64 0]) ∧ Below w.heap.size w w' := by
  have hB0 : Below w.heap.size w (w.alloc (.cells #[.slice (some ⟨b, off, none⟩) n1 c1, .slice a2 n2 c2, .slice a3 n3 c3] 38)) := (Below.refl _ _).alloc (Nat.le_refl _) _
  obtain ⟨hn1, hn2, hn3⟩ := mok1 h
  have hp : ((k : Int) == 131072) = false := by simp; omega
  have hi : ins (k : Int) 4 0 n1 = true := by unfold ins; simp; omega
  have hcap := h1.2.2.2.2
  have hm' : ((k : Int).tmod 4 != 0) = false := by rw [Int.tmod_eq_emod_of_nonneg (by omega)]; exact hm
  go_enter Tryz.func75, Tryz.ntmps75
  go_wp2_with fail
  refine (acc_ok4 (some ⟨b, off, none⟩) a2 a3 n1 c1 n2 c2 n3 c3 _ _ h hm').mono ?_
  rintro e w1 ⟨rfl, hb1⟩
  have k1 := (Blk.new w #[.slice (some ⟨b, off, none⟩) n1 c1, .slice a2 n2 c2, .slice a3 n3 c3] 38).below hb1
  have hB1 := hB0.trans (hb1.mono (by simp))
  obtain ⟨q1, q2, q3, q4⟩ := k1.three
  clear hb1 k1
  go_wp2_with fail
  refine (holds_any (some ⟨b, off, none⟩) n1 c1 _ 4 0 _ (by omega) (by omega) (by omega) (by omega) (by omega) (by omega)).mono ?_
  rw [hi]
  rintro e w2 ⟨rfl, rfl⟩
  go_wp2_with fail
  refine (getBytes_4 b (off + k) (n1 - k) (c1 - k) _ _ ((h1.below hB1).drop k (by omega)) (by omega)).mono ?_
  rintro e w3 ⟨rfl, hb3⟩
  go_wp2
  go_ret2
  exact ⟨rfl, hB1.trans (hb3.mono hB1.size)⟩

set_option maxHeartbeats 1000000 in
theorem iRead_ram4 (b off : Nat) (a1 a3 : Option Addr) (x2 : List Int) (k : Nat) (p : Int) (n1 c1 n2 c2 n3 c3 : Nat) (w : World) (h : mok n1 n2 n3 = true) (h2 : BS w (some ⟨b, off, none⟩) n2 c2 x2) (hpk : p - 65536 = (k : Int)) (hm : (p % 4 != 0) = false) (hk : k + 4 ≤ n2) :
    Calls Tryz.prog 75 #[.agg #[.slice a1 n1 c1, .slice (some ⟨b, off, none⟩) n2 c2, .slice a3 n3 c3], .int .i64 p, .int .i64 4] w fun e w' => e = .returned (.tuple #[.int .i64 (low ((x2.drop k).take 4)), .int .i64 0]) ∧ Below w.heap.size w w' := by
  have hB0 : Below w.heap.size w (w.alloc (.cells #[.slice a1 n1 c1, .slice (some ⟨b, off, none⟩) n2 c2, .slice a3 n3 c3] 38)) := (Below.refl _ _).alloc (Nat.le_refl _) _
  obtain ⟨hn1, hn2, hn3⟩ := mok1 h
  have hp : (p == 131072) = false := by simp; omega
  have hi : ins p 4 0 n1 = false := by unfold ins; simp; omega
  have hj : ins p 4 65536 n2 = true := by unfold ins; simp; omega
  have hcap := h2.2.2.2.2
  have hp0 : 65536 ≤ p := by omega
  have hp1 : p ≤ 131072 := by omega
  have hm' : (p.tmod 4 != 0) = false := by rw [Int.tmod_eq_emod_of_nonneg (by omega)]; exact hm
  go_enter Tryz.func75, Tryz.ntmps75
  go_wp2_with fail
  refine (acc_ok4 a1 (some ⟨b, off, none⟩) a3 n1 c1 n2 c2 n3 c3 _ _ h hm').mono ?_
  rintro e w1 ⟨rfl, hb1⟩
  have k1 := (Blk.new w #[.slice a1 n1 c1, .slice (some ⟨b, off, none⟩) n2 c2, .slice a3 n3 c3] 38).below hb1
  have hB1 := hB0.trans (hb1.mono (by simp))
  obtain ⟨q1, q2, q3, q4⟩ := k1.three
  clear hb1 k1
  go_wp2_with fail
  refine (holds_any a1 n1 c1 _ 4 0 _ (by omega) (by omega) (by omega) (by omega) (by omega) (by omega)).mono ?_
  rw [hi]
  rintro e w2 ⟨rfl, rfl⟩
  go_wp2_with fail
  refine (holds_any (some ⟨b, off, none⟩) n2 c2 _ 4 65536 _ (by omega) (by omega) (by omega) (by omega) (by omega) (by omega)).mono ?_
  rw [hj]
  rintro e w2 ⟨rfl, rfl⟩
  go_wp2_with fail
  refine (getBytes_4 b (off + k) (n2 - k) (c2 - k) _ _ ((h2.below hB1).drop k (by omega)) (by omega)).mono ?_
  rintro e w3 ⟨rfl, hb3⟩
  go_wp2
  go_ret2
  exact ⟨rfl, hB1.trans (hb3.mono hB1.size)⟩

set_option maxHeartbeats 1000000 in
theorem iRead_mis2 (a1 a2 a3 : Option Addr) (p : Int) (n1 c1 n2 c2 n3 c3 : Nat) (w : World) (h : mok n1 n2 n3 = true) (hm : (p.tmod 2 != 0) = true) :
    Calls Tryz.prog 75 #[.agg #[.slice a1 n1 c1, .slice a2 n2 c2, .slice a3 n3 c3], .int .i64 p, .int .i64 2] w fun e w' => e = .returned (.tuple #[.int .i64 0, .int .i64 1]) ∧ Below w.heap.size w w' := by
  have hB0 : Below w.heap.size w (w.alloc (.cells #[.slice a1 n1 c1, .slice a2 n2 c2, .slice a3 n3 c3] 38)) := (Below.refl _ _).alloc (Nat.le_refl _) _
  obtain ⟨hn1, hn2, hn3⟩ := mok1 h
  go_enter Tryz.func75, Tryz.ntmps75
  go_wp2_with fail
  refine (acc_mis2 a1 a2 a3 n1 c1 n2 c2 n3 c3 _ _ h hm).mono ?_
  rintro e w1 ⟨rfl, hb1⟩
  have k1 := (Blk.new w #[.slice a1 n1 c1, .slice a2 n2 c2, .slice a3 n3 c3] 38).below hb1
  have hB1 := hB0.trans (hb1.mono (by simp))
  obtain ⟨q1, q2, q3, q4⟩ := k1.three
  clear hb1 k1
  go_wp2
  go_ret2
  exact ⟨rfl, hB1⟩

set_option maxHeartbeats 1000000 in
theorem iRead_port2 (a1 a2 a3 : Option Addr) (n1 c1 n2 c2 n3 c3 : Nat) (w : World) (h : mok n1 n2 n3 = true)  :
    Calls Tryz.prog 75 #[.agg #[.slice a1 n1 c1, .slice a2 n2 c2, .slice a3 n3 c3], .int .i64 131072, .int .i64 2] w fun e w' => e = .returned (.tuple #[.int .i64 0, .int .i64 4]) ∧ Below w.heap.size w w' := by
  have hB0 : Below w.heap.size w (w.alloc (.cells #[.slice a1 n1 c1, .slice a2 n2 c2, .slice a3 n3 c3] 38)) := (Below.refl _ _).alloc (Nat.le_refl _) _
  obtain ⟨hn1, hn2, hn3⟩ := mok1 h
  go_enter Tryz.func75, Tryz.ntmps75
  go_wp2_with fail
  refine (acc_ok2 a1 a2 a3 n1 c1 n2 c2 n3 c3 _ _ h (by decide)).mono ?_
  rintro e w1 ⟨rfl, hb1⟩
  have k1 := (Blk.new w #[.slice a1 n1 c1, .slice a2 n2 c2, .slice a3 n3 c3] 38).below hb1
  have hB1 := hB0.trans (hb1.mono (by simp))
  obtain ⟨q1, q2, q3, q4⟩ := k1.three
  clear hb1 k1
  go_wp2
  go_ret2
  exact ⟨rfl, hB1⟩

set_option maxHeartbeats 1000000 in
theorem iRead_none2 (a1 a2 a3 : Option Addr) (p : Int) (n1 c1 n2 c2 n3 c3 : Nat) (w : World) (h : mok n1 n2 n3 = true) (hmax : p ≤ 9223372036854775807) (hm : (p.tmod 2 != 0) = false) (hp : (p == 131072) = false) (hi : ins p 2 0 n1 = false) (hj : ins p 2 65536 n2 = false) :
    Calls Tryz.prog 75 #[.agg #[.slice a1 n1 c1, .slice a2 n2 c2, .slice a3 n3 c3], .int .i64 p, .int .i64 2] w fun e w' => e = .returned (.tuple #[.int .i64 0, .int .i64 2]) ∧ Below w.heap.size w w' := by
  have hB0 : Below w.heap.size w (w.alloc (.cells #[.slice a1 n1 c1, .slice a2 n2 c2, .slice a3 n3 c3] 38)) := (Below.refl _ _).alloc (Nat.le_refl _) _
  obtain ⟨hn1, hn2, hn3⟩ := mok1 h
  go_enter Tryz.func75, Tryz.ntmps75
  go_wp2_with fail
  refine (acc_ok2 a1 a2 a3 n1 c1 n2 c2 n3 c3 _ _ h hm).mono ?_
  rintro e w1 ⟨rfl, hb1⟩
  have k1 := (Blk.new w #[.slice a1 n1 c1, .slice a2 n2 c2, .slice a3 n3 c3] 38).below hb1
  have hB1 := hB0.trans (hb1.mono (by simp))
  obtain ⟨q1, q2, q3, q4⟩ := k1.three
  clear hb1 k1
  go_wp2_with fail
  refine (holds_any a1 n1 c1 _ 2 0 _ (by omega) (by omega) (by omega) (by omega) (by omega) (by omega)).mono ?_
  rw [hi]
  rintro e w2 ⟨rfl, rfl⟩
  go_wp2_with fail
  refine (holds_any a2 n2 c2 _ 2 65536 _ (by omega) (by omega) (by omega) (by omega) (by omega) (by omega)).mono ?_
  rw [hj]
  rintro e w2 ⟨rfl, rfl⟩
  go_wp2
  go_ret2
  exact ⟨rfl, hB1⟩

set_option maxHeartbeats 1000000 in
theorem iRead_flash2 (b off : Nat) (a2 a3 : Option Addr) (x1 : List Int) (k : Nat) (n1 c1 n2 c2 n3 c3 : Nat) (w : World) (h : mok n1 n2 n3 = true) (h1 : BS w (some ⟨b, off, none⟩) n1 c1 x1) (hm : ((k : Int) % 2 != 0) = false) (hk : k + 2 ≤ n1) :
    Calls Tryz.prog 75 #[.agg #[.slice (some ⟨b, off, none⟩) n1 c1, .slice a2 n2 c2, .slice a3 n3 c3], .int .i64 k, .int .i64 2] w fun e w' => e = .returned (.tuple #[.int .i64 (low ((x1.drop k).take 2)), .int .i64 0]) ∧ Below w.heap.size w w' := by
  have hB0 : Below w.heap.size w (w.alloc (.cells #[.slice (some ⟨b, off, none⟩) n1 c1, .slice a2 n2 c2, .slice a3 n3 c3] 38)) := (Below.refl _ _).alloc (Nat.le_refl _) _
  obtain ⟨hn1, hn2, hn3⟩ := mok1 h
  have hp : ((k : Int) == 131072) = false := by simp; omega
  have hi : ins (k : Int) 2 0 n1 = true := by unfold ins; simp; omega
  have hcap := h1.2.2.2.2
  have hm' : ((k : Int).tmod 2 != 0) = false := by rw [Int.tmod_eq_emod_of_nonneg (by omega)]; exact hm
  go_enter Tryz.func75, Tryz.ntmps75
  go_wp2_with fail
  refine (acc_ok2 (some ⟨b, off, none⟩) a2 a3 n1 c1 n2 c2 n3 c3 _ _ h hm').mono ?_
  rintro e w1 ⟨rfl, hb1⟩
  have k1 := (Blk.new w #[.slice (some ⟨b, off, none⟩) n1 c1, .slice a2 n2 c2, .slice a3 n3 c3] 38).below hb1
  have hB1 := hB0.trans (hb1.mono (by simp))
  obtain ⟨q1, q2, q3, q4⟩ := k1.three
  clear hb1 k1
  go_wp2_with fail
  refine (holds_any (some ⟨b, off, none⟩) n1 c1 _ 2 0 _ (by omega) (by omega) (by omega) (by omega) (by omega) (by omega)).mono ?_
  rw [hi]
  rintro e w2 ⟨rfl, rfl⟩
  go_wp2_with fail
  refine (getBytes_2 b (off + k) (n1 - k) (c1 - k) _ _ ((h1.below hB1).drop k (by omega)) (by omega)).mono ?_
  rintro e w3 ⟨rfl, hb3⟩
  go_wp2
  go_ret2
  exact ⟨rfl, hB1.trans (hb3.mono hB1.size)⟩

set_option maxHeartbeats 1000000 in
theorem iRead_ram2 (b off : Nat) (a1 a3 : Option Addr) (x2 : List Int) (k : Nat) (p : Int) (n1 c1 n2 c2 n3 c3 : Nat) (w : World) (h : mok n1 n2 n3 = true) (h2 : BS w (some ⟨b, off, none⟩) n2 c2 x2) (hpk : p - 65536 = (k : Int)) (hm : (p % 2 != 0) = false) (hk : k + 2 ≤ n2) :
    Calls Tryz.prog 75 #[.agg #[.slice a1 n1 c1, .slice (some ⟨b, off, none⟩) n2 c2, .slice a3 n3 c3], .int .i64 p, .int .i64 2] w fun e w' => e = .returned (.tuple #[.int .i64 (low ((x2.drop k).take 2)), .int .i64 0]) ∧ Below w.heap.size w w' := by
  have hB0 : Below w.heap.size w (w.alloc (.cells #[.slice a1 n1 c1, .slice (some ⟨b, off, none⟩) n2 c2, .slice a3 n3 c3] 38)) := (Below.refl _ _).alloc (Nat.le_refl _) _
  obtain ⟨hn1, hn2, hn3⟩ := mok1 h
  have hp : (p == 131072) = false := by simp; omega
  have hi : ins p 2 0 n1 = false := by unfold ins; simp; omega
  have hj : ins p 2 65536 n2 = true := by unfold ins; simp; omega
  have hcap := h2.2.2.2.2
  have hp0 : 65536 ≤ p := by omega
  have hp1 : p ≤ 131072 := by omega
  have hm' : (p.tmod 2 != 0) = false := by rw [Int.tmod_eq_emod_of_nonneg (by omega)]; exact hm
  go_enter Tryz.func75, Tryz.ntmps75
  go_wp2_with fail
  refine (acc_ok2 a1 (some ⟨b, off, none⟩) a3 n1 c1 n2 c2 n3 c3 _ _ h hm').mono ?_
  rintro e w1 ⟨rfl, hb1⟩
  have k1 := (Blk.new w #[.slice a1 n1 c1, .slice (some ⟨b, off, none⟩) n2 c2, .slice a3 n3 c3] 38).below hb1
  have hB1 := hB0.trans (hb1.mono (by simp))
  obtain ⟨q1, q2, q3, q4⟩ := k1.three
  clear hb1 k1
  go_wp2_with fail
  refine (holds_any a1 n1 c1 _ 2 0 _ (by omega) (by omega) (by omega) (by omega) (by omega) (by omega)).mono ?_
  rw [hi]
  rintro e w2 ⟨rfl, rfl⟩
  go_wp2_with fail
  refine (holds_any (some ⟨b, off, none⟩) n2 c2 _ 2 65536 _ (by omega) (by omega) (by omega) (by omega) (by omega) (by omega)).mono ?_
  rw [hj]
  rintro e w2 ⟨rfl, rfl⟩
  go_wp2_with fail
  refine (getBytes_2 b (off + k) (n2 - k) (c2 - k) _ _ ((h2.below hB1).drop k (by omega)) (by omega)).mono ?_
  rintro e w3 ⟨rfl, hb3⟩
  go_wp2
  go_ret2
  exact ⟨rfl, hB1.trans (hb3.mono hB1.size)⟩

set_option maxHeartbeats 1000000 in
theorem iRead_port1 (a1 a2 a3 : Option Addr) (n1 c1 n2 c2 n3 c3 : Nat) (w : World) (h : mok n1 n2 n3 = true)  :
    Calls Tryz.prog 75 #[.agg #[.slice a1 n1 c1, .slice a2 n2 c2, .slice a3 n3 c3], .int .i64 131072, .int .i64 1] w fun e w' => e = .returned (.tuple #[.int .i64 0, .int .i64 4]) ∧ Below w.heap.size w w' := by
  have hB0 : Below w.heap.size w (w.alloc (.cells #[.slice a1 n1 c1, .slice a2 n2 c2, .slice a3 n3 c3] 38)) := (Below.refl _ _).alloc (Nat.le_refl _) _
  obtain ⟨hn1, hn2, hn3⟩ := mok1 h
  go_enter Tryz.func75, Tryz.ntmps75
  go_wp2_with fail
  refine (acc_ok1 a1 a2 a3 n1 c1 n2 c2 n3 c3 _ _ h (by decide)).mono ?_
  rintro e w1 ⟨rfl, hb1⟩
  have k1 := (Blk.new w #[.slice a1 n1 c1, .slice a2 n2 c2, .slice a3 n3 c3] 38).below hb1
  have hB1 := hB0.trans (hb1.mono (by simp))
  obtain ⟨q1, q2, q3, q4⟩ := k1.three
  clear hb1 k1
  go_wp2
  go_ret2
  exact ⟨rfl, hB1⟩

set_option maxHeartbeats 1000000 in
theorem iRead_none1 (a1 a2 a3 : Option Addr) (p : Int) (n1 c1 n2 c2 n3 c3 : Nat) (w : World) (h : mok n1 n2 n3 = true) (hmax : p ≤ 9223372036854775807) (hm : (p.tmod 1 != 0) = false) (hp : (p == 131072) = false) (hi : ins p 1 0 n1 = false) (hj : ins p 1 65536 n2 = false) :
    Calls Tryz.prog 75 #[.agg #[.slice a1 n1 c1, .slice a2 n2 c2, .slice a3 n3 c3], .int .i64 p, .int .i64 1] w fun e w' => e = .returned (.tuple #[.int .i64 0, .int .i64 2]) ∧ Below w.heap.size w w' := by
  have hB0 : Below w.heap.size w (w.alloc (.cells #[.slice a1 n1 c1, .slice a2 n2 c2, .slice a3 n3 c3] 38)) := (Below.refl _ _).alloc (Nat.le_refl _) _
  obtain ⟨hn1, hn2, hn3⟩ := mok1 h
  go_enter Tryz.func75, Tryz.ntmps75
  go_wp2_with fail
  refine (acc_ok1 a1 a2 a3 n1 c1 n2 c2 n3 c3 _ _ h hm).mono ?_
  rintro e w1 ⟨rfl, hb1⟩
  have k1 := (Blk.new w #[.slice a1 n1 c1, .slice a2 n2 c2, .slice a3 n3 c3] 38).below hb1
  have hB1 := hB0.trans (hb1.mono (by simp))
  obtain ⟨q1, q2, q3, q4⟩ := k1.three
  clear hb1 k1
  go_wp2_with fail
  refine (holds_any a1 n1 c1 _ 1 0 _ (by omega) (by omega) (by omega) (by omega) (by omega) (by omega)).mono ?_
  rw [hi]
  rintro e w2 ⟨rfl, rfl⟩
  go_wp2_with fail
  refine (holds_any a2 n2 c2 _ 1 65536 _ (by omega) (by omega) (by omega) (by omega) (by omega) (by omega)).mono ?_
  rw [hj]
  rintro e w2 ⟨rfl, rfl⟩
  go_wp2
  go_ret2
  exact ⟨rfl, hB1⟩

set_option maxHeartbeats 1000000 in
theorem iRead_flash1 (b off : Nat) (a2 a3 : Option Addr) (x1 : List Int) (k : Nat) (n1 c1 n2 c2 n3 c3 : Nat) (w : World) (h : mok n1 n2 n3 = true) (h1 : BS w (some ⟨b, off, none⟩) n1 c1 x1) (hm : ((k : Int) % 1 != 0) = false) (hk : k + 1 ≤ n1) :
    Calls Tryz.prog 75 #[.agg #[.slice (some ⟨b, off, none⟩) n1 c1, .slice a2 n2 c2, .slice a3 n3 c3], .int .i64 k, .int .i64 1] w fun e w' => e = .returned (.tuple #[.int .i64 (low ((x1.drop k).take 1)), .int .i64 0]) ∧ Below w.heap.size w w' := by
  have hB0 : Below w.heap.size w (w.alloc (.cells #[.slice (some ⟨b, off, none⟩) n1 c1, .slice a2 n2 c2, .slice a3 n3 c3] 38)) := (Below.refl _ _).alloc (Nat.le_refl _) _
  obtain ⟨hn1, hn2, hn3⟩ := mok1 h
  have hp : ((k : Int) == 131072) = false := by simp; omega
  have hi : ins (k : Int) 1 0 n1 = true := by unfold ins; simp; omega
  have hcap := h1.2.2.2.2
  have hm' : ((k : Int).tmod 1 != 0) = false := by rw [Int.tmod_eq_emod_of_nonneg (by omega)]; exact hm
  go_enter Tryz.func75, Tryz.ntmps75
  go_wp2_with fail
  refine (acc_ok1 (some ⟨b, off, none⟩) a2 a3 n1 c1 n2 c2 n3 c3 _ _ h hm').mono ?_
  rintro e w1 ⟨rfl, hb1⟩
  have k1 := (Blk.new w #[.slice (some ⟨b, off, none⟩) n1 c1, .slice a2 n2 c2, .slice a3 n3 c3] 38).below hb1
  have hB1 := hB0.trans (hb1.mono (by simp))
  obtain ⟨q1, q2, q3, q4⟩ := k1.three
  clear hb1 k1
  go_wp2_with fail
  refine (holds_any (some ⟨b, off, none⟩) n1 c1 _ 1 0 _ (by omega) (by omega) (by omega) (by omega) (by omega) (by omega)).mono ?_
  rw [hi]
  rintro e w2 ⟨rfl, rfl⟩
  go_wp2_with fail
  refine (getBytes_1 b (off + k) (n1 - k) (c1 - k) _ _ ((h1.below hB1).drop k (by omega)) (by omega)).mono ?_
  rintro e w3 ⟨rfl, hb3⟩
  go_wp2
  go_ret2
  exact ⟨rfl, hB1.trans (hb3.mono hB1.size)⟩

set_option maxHeartbeats 1000000 in
theorem iRead_ram1 (b off : Nat) (a1 a3 : Option Addr) (x2 : List Int) (k : Nat) (p : Int) (n1 c1 n2 c2 n3 c3 : Nat) (w : World) (h : mok n1 n2 n3 = true) (h2 : BS w (some ⟨b, off, none⟩) n2 c2 x2) (hpk : p - 65536 = (k : Int)) (hm : (p % 1 != 0) = false) (hk : k + 1 ≤ n2) :
    Calls Tryz.prog 75 #[.agg #[.slice a1 n1 c1, .slice (some ⟨b, off, none⟩) n2 c2, .slice a3 n3 c3], .int .i64 p, .int .i64 1] w fun e w' => e = .returned (.tuple #[.int .i64 (low ((x2.drop k).take 1)), .int .i64 0]) ∧ Below w.heap.size w w' := by
  have hB0 : Below w.heap.size w (w.alloc (.cells #[.slice a1 n1 c1, .slice (some ⟨b, off, none⟩) n2 c2, .slice a3 n3 c3] 38)) := (Below.refl _ _).alloc (Nat.le_refl _) _
  obtain ⟨hn1, hn2, hn3⟩ := mok1 h
  have hp : (p == 131072) = false := by simp; omega
  have hi : ins p 1 0 n1 = false := by unfold ins; simp; omega
  have hj : ins p 1 65536 n2 = true := by unfold ins; simp; omega
  have hcap := h2.2.2.2.2
  have hp0 : 65536 ≤ p := by omega
  have hp1 : p ≤ 131072 := by omega
  have hm' : (p.tmod 1 != 0) = false := by rw [Int.tmod_eq_emod_of_nonneg (by omega)]; exact hm
  go_enter Tryz.func75, Tryz.ntmps75
  go_wp2_with fail
  refine (acc_ok1 a1 (some ⟨b, off, none⟩) a3 n1 c1 n2 c2 n3 c3 _ _ h hm').mono ?_
  rintro e w1 ⟨rfl, hb1⟩
  have k1 := (Blk.new w #[.slice a1 n1 c1, .slice (some ⟨b, off, none⟩) n2 c2, .slice a3 n3 c3] 38).below hb1
  have hB1 := hB0.trans (hb1.mono (by simp))
  obtain ⟨q1, q2, q3, q4⟩ := k1.three
  clear hb1 k1
  go_wp2_with fail
  refine (holds_any a1 n1 c1 _ 1 0 _ (by omega) (by omega) (by omega) (by omega) (by omega) (by omega)).mono ?_
  rw [hi]
  rintro e w2 ⟨rfl, rfl⟩
  go_wp2_with fail
  refine (holds_any (some ⟨b, off, none⟩) n2 c2 _ 1 65536 _ (by omega) (by omega) (by omega) (by omega) (by omega) (by omega)).mono ?_
  rw [hj]
  rintro e w2 ⟨rfl, rfl⟩
  go_wp2_with fail
  refine (getBytes_1 b (off + k) (n2 - k) (c2 - k) _ _ ((h2.below hB1).drop k (by omega)) (by omega)).mono ?_
  rintro e w3 ⟨rfl, hb3⟩
  go_wp2
  go_ret2
  exact ⟨rfl, hB1.trans (hb3.mono hB1.size)⟩

end Go.Proofs.YtngdgogjlpjjpadGreat

namespace Go.Proofs.YtngdgogjlpjjpadGreat
open Go.RowKit
set_option linter.unusedVariables false

/-- WHAT Read ANSWERS. -/
def rd (n1 n2 n3 : Nat) (x1 x2 : List Int) (p s : Int) : Int × Int :=
  if mok n1 n2 n3 = true ∧ wd s = true then
    if (p.tmod s != 0) = true then (0, 1)
    else if p = 131072 then (0, 4)
      else if ins p s 0 n1 = true then (low ((x1.drop p.toNat).take s.toNat), 0)
      else if ins p s 65536 n2 = true then (low ((x2.drop (p - 65536).toNat).take s.toNat), 0) else (0, 2)
  else (0, 2)
theorem rd_pair {x y : Int} {r : Int × Int} (h : r = (x, y)) : Value.tuple #[.int .i64 r.1, .int .i64 r.2] = .tuple #[.int .i64 x, .int .i64 y] := by rw [h]
theorem wd_cases {s : Int} (h : wd s = true) : s = 4 ∨ s = 2 ∨ s = 1 := by simp [wd] at h; omega
theorem tmod1 (p : Int) : (p.tmod 1 != 0) = false := by simp
theorem BS.some {w : World} {a : Option Addr} {n cap : Nat} {zs : List Int} (h : BS w a n cap zs) (hn : n ≠ 0) : ∃ b off, a = Option.some ⟨b, off, none⟩ := by
  obtain ⟨b, off, e, _⟩ := h.2.2.2.1 hn
  exact ⟨b, off, e⟩

theorem sRead_any (a1 a2 a3 : Option Addr) (n1 c1 n2 c2 n3 c3 : Nat) (x1 x2 x3 : List Int) (p s : Int) (w : World) (h1 : BS w a1 n1 c1 x1) (h2 : BS w a2 n2 c2 x2) (hmax : p ≤ 9223372036854775807) :
    Calls Tryz.prog 83 #[.agg #[.slice a1 n1 c1, .slice a2 n2 c2, .slice a3 n3 c3], .int .i64 p, .int .i64 s] w fun e w' => e = .returned (.tuple #[.int .i64 (rd n1 n2 n3 x1 x2 p s).1, .int .i64 (rd n1 n2 n3 x1 x2 p s).2]) ∧ Below w.heap.size w w' := by
  by_cases hb : mok n1 n2 n3 = true ∧ wd s = true
  · obtain ⟨hm, hs⟩ := hb
    obtain ⟨l1, l2, l3⟩ := mok1 hm
    rcases wd_cases hs with rfl | rfl | rfl
    · by_cases ha : (p.tmod 4 != 0) = true
      · rw [rd_pair (x := 0) (y := 1) (by rw [rd, if_pos ⟨hm, hs⟩, if_pos ha])]
        exact sRead_mis4 a1 a2 a3 p n1 c1 n2 c2 n3 c3 w hm ha
      · have hna := ha
        have ha : (p.tmod 4 != 0) = false := by simpa using ha
        by_cases hp : p = 131072
        · subst hp
          rw [rd_pair (x := 0) (y := 4) (by rw [rd, if_pos ⟨hm, hs⟩, if_neg hna, if_pos rfl])]
          exact sRead_port4 a1 a2 a3 n1 c1 n2 c2 n3 c3 w hm
        · by_cases hi : ins p 4 0 n1 = true
          · rw [rd_pair (by rw [rd, if_pos ⟨hm, hs⟩, if_neg hna, if_neg hp, if_pos hi])]
            have hi' := hi
            simp [ins] at hi'
            obtain ⟨k, rfl⟩ := Int.eq_ofNat_of_zero_le hi'.1
            obtain ⟨b, off, rfl⟩ := h1.some (by omega)
            exact sRead_flash4 b off a2 a3 x1 k n1 c1 n2 c2 n3 c3 w hm h1 (by rw [Int.tmod_eq_emod_of_nonneg (by omega)] at ha; exact ha) (by omega)
          · have hi : ins p 4 0 n1 = false := by simpa using hi
            by_cases hj : ins p 4 65536 n2 = true
            · rw [rd_pair (by rw [rd, if_pos ⟨hm, hs⟩, if_neg hna, if_neg hp, if_neg (by rw [hi]; simp), if_pos hj])]
              have hj' := hj
              simp [ins] at hj'
              obtain ⟨k, hk⟩ := Int.eq_ofNat_of_zero_le (show 0 ≤ p - 65536 by omega)
              obtain ⟨b, off, rfl⟩ := h2.some (by omega)
              rw [hk]
              exact sRead_ram4 b off a1 a3 x2 k p n1 c1 n2 c2 n3 c3 w hm h2 hk (by rw [Int.tmod_eq_emod_of_nonneg (by omega)] at ha; exact ha) (by omega)
            · have hj : ins p 4 65536 n2 = false := by simpa using hj
              rw [rd_pair (x := 0) (y := 2) (by rw [rd, if_pos ⟨hm, hs⟩, if_neg hna, if_neg hp, if_neg (by rw [hi]; simp), if_neg (by rw [hj]; simp)])]
              exact sRead_none4 a1 a2 a3 p n1 c1 n2 c2 n3 c3 w hm ha (by simpa using hp) hi hj
    · by_cases ha : (p.tmod 2 != 0) = true
      · rw [rd_pair (x := 0) (y := 1) (by rw [rd, if_pos ⟨hm, hs⟩, if_pos ha])]
        exact sRead_mis2 a1 a2 a3 p n1 c1 n2 c2 n3 c3 w hm ha
      · have hna := ha
        have ha : (p.tmod 2 != 0) = false := by simpa using ha
        by_cases hp : p = 131072
        · subst hp
          rw [rd_pair (x := 0) (y := 4) (by rw [rd, if_pos ⟨hm, hs⟩, if_neg hna, if_pos rfl])]
          exact sRead_port2 a1 a2 a3 n1 c1 n2 c2 n3 c3 w hm
        · by_cases hi : ins p 2 0 n1 = true
          · rw [rd_pair (by rw [rd, if_pos ⟨hm, hs⟩, if_neg hna, if_neg hp, if_pos hi])]
            have hi' := hi
            simp [ins] at hi'
            obtain ⟨k, rfl⟩ := Int.eq_ofNat_of_zero_le hi'.1
            obtain ⟨b, off, rfl⟩ := h1.some (by omega)
            exact sRead_flash2 b off a2 a3 x1 k n1 c1 n2 c2 n3 c3 w hm h1 (by rw [Int.tmod_eq_emod_of_nonneg (by omega)] at ha; exact ha) (by omega)
          · have hi : ins p 2 0 n1 = false := by simpa using hi
            by_cases hj : ins p 2 65536 n2 = true
            · rw [rd_pair (by rw [rd, if_pos ⟨hm, hs⟩, if_neg hna, if_neg hp, if_neg (by rw [hi]; simp), if_pos hj])]
              have hj' := hj
              simp [ins] at hj'
              obtain ⟨k, hk⟩ := Int.eq_ofNat_of_zero_le (show 0 ≤ p - 65536 by omega)
              obtain ⟨b, off, rfl⟩ := h2.some (by omega)
              rw [hk]
              exact sRead_ram2 b off a1 a3 x2 k p n1 c1 n2 c2 n3 c3 w hm h2 hk (by rw [Int.tmod_eq_emod_of_nonneg (by omega)] at ha; exact ha) (by omega)
            · have hj : ins p 2 65536 n2 = false := by simpa using hj
              rw [rd_pair (x := 0) (y := 2) (by rw [rd, if_pos ⟨hm, hs⟩, if_neg hna, if_neg hp, if_neg (by rw [hi]; simp), if_neg (by rw [hj]; simp)])]
              exact sRead_none2 a1 a2 a3 p n1 c1 n2 c2 n3 c3 w hm ha (by simpa using hp) hi hj
    · by_cases ha : (p.tmod 1 != 0) = true
      · rw [tmod1] at ha
        exact absurd ha (by simp)
      · have hna := ha
        have ha : (p.tmod 1 != 0) = false := by simp
        by_cases hp : p = 131072
        · subst hp
          rw [rd_pair (x := 0) (y := 4) (by rw [rd, if_pos ⟨hm, hs⟩, if_neg hna, if_pos rfl])]
          exact sRead_port1 a1 a2 a3 n1 c1 n2 c2 n3 c3 w hm
        · by_cases hi : ins p 1 0 n1 = true
          · rw [rd_pair (by rw [rd, if_pos ⟨hm, hs⟩, if_neg hna, if_neg hp, if_pos hi])]
            have hi' := hi
            simp [ins] at hi'
            obtain ⟨k, rfl⟩ := Int.eq_ofNat_of_zero_le hi'.1
            obtain ⟨b, off, rfl⟩ := h1.some (by omega)
            exact sRead_flash1 b off a2 a3 x1 k n1 c1 n2 c2 n3 c3 w hm h1 (by rw [Int.tmod_eq_emod_of_nonneg (by omega)] at ha; exact ha) (by omega)
          · have hi : ins p 1 0 n1 = false := by simpa using hi
            by_cases hj : ins p 1 65536 n2 = true
            · rw [rd_pair (by rw [rd, if_pos ⟨hm, hs⟩, if_neg hna, if_neg hp, if_neg (by rw [hi]; simp), if_pos hj])]
              have hj' := hj
              simp [ins] at hj'
              obtain ⟨k, hk⟩ := Int.eq_ofNat_of_zero_le (show 0 ≤ p - 65536 by omega)
              obtain ⟨b, off, rfl⟩ := h2.some (by omega)
              rw [hk]
              exact sRead_ram1 b off a1 a3 x2 k p n1 c1 n2 c2 n3 c3 w hm h2 hk (by rw [Int.tmod_eq_emod_of_nonneg (by omega)] at ha; exact ha) (by omega)
            · have hj : ins p 1 65536 n2 = false := by simpa using hj
              rw [rd_pair (x := 0) (y := 2) (by rw [rd, if_pos ⟨hm, hs⟩, if_neg hna, if_neg hp, if_neg (by rw [hi]; simp), if_neg (by rw [hj]; simp)])]
              exact sRead_none1 a1 a2 a3 p n1 c1 n2 c2 n3 c3 w hm ha (by simpa using hp) hi hj
  · rw [rd_pair (x := 0) (y := 2) (by rw [rd, if_neg hb])]
    refine sRead_bad a1 a2 a3 n1 c1 n2 c2 n3 c3 p s w ?_
    by_cases hm : mok n1 n2 n3 = true
    · right; by_cases hs : wd s = true
      · exact absurd ⟨hm, hs⟩ hb
      · simpa using hs
    · left; simpa using hm

theorem iRead_any (a1 a2 a3 : Option Addr) (n1 c1 n2 c2 n3 c3 : Nat) (x1 x2 x3 : List Int) (p s : Int) (w : World) (h1 : BS w a1 n1 c1 x1) (h2 : BS w a2 n2 c2 x2) (hmax : p ≤ 9223372036854775807) :
    Calls Tryz.prog 75 #[.agg #[.slice a1 n1 c1, .slice a2 n2 c2, .slice a3 n3 c3], .int .i64 p, .int .i64 s] w fun e w' => e = .returned (.tuple #[.int .i64 (rd n1 n2 n3 x1 x2 p s).1, .int .i64 (rd n1 n2 n3 x1 x2 p s).2]) ∧ Below w.heap.size w w' := by
  by_cases hb : mok n1 n2 n3 = true ∧ wd s = true
  · obtain ⟨hm, hs⟩ := hb
    obtain ⟨l1, l2, l3⟩ := mok1 hm
    rcases wd_cases hs with rfl | rfl | rfl
    · by_cases ha : (p.tmod 4 != 0) = true
      · rw [rd_pair (x := 0) (y := 1) (by rw [rd, if_pos ⟨hm, hs⟩, if_pos ha])]
        exact iRead_mis4 a1 a2 a3 p n1 c1 n2 c2 n3 c3 w hm ha
      · have hna := ha
        have ha : (p.tmod 4 != 0) = false := by simpa using ha
        by_cases hp : p = 131072
        · subst hp
          rw [rd_pair (x := 0) (y := 4) (by rw [rd, if_pos ⟨hm, hs⟩, if_neg hna, if_pos rfl])]
          exact iRead_port4 a1 a2 a3 n1 c1 n2 c2 n3 c3 w hm
        · by_cases hi : ins p 4 0 n1 = true
          · rw [rd_pair (by rw [rd, if_pos ⟨hm, hs⟩, if_neg hna, if_neg hp, if_pos hi])]
            have hi' := hi
            simp [ins] at hi'
            obtain ⟨k, rfl⟩ := Int.eq_ofNat_of_zero_le hi'.1
            obtain ⟨b, off, rfl⟩ := h1.some (by omega)
            exact iRead_flash4 b off a2 a3 x1 k n1 c1 n2 c2 n3 c3 w hm h1 (by rw [Int.tmod_eq_emod_of_nonneg (by omega)] at ha; exact ha) (by omega)
          · have hi : ins p 4 0 n1 = false := by simpa using hi
            by_cases hj : ins p 4 65536 n2 = true
            · rw [rd_pair (by rw [rd, if_pos ⟨hm, hs⟩, if_neg hna, if_neg hp, if_neg (by rw [hi]; simp), if_pos hj])]
              have hj' := hj
              simp [ins] at hj'
              obtain ⟨k, hk⟩ := Int.eq_ofNat_of_zero_le (show 0 ≤ p - 65536 by omega)
              obtain ⟨b, off, rfl⟩ := h2.some (by omega)
              rw [hk]
              exact iRead_ram4 b off a1 a3 x2 k p n1 c1 n2 c2 n3 c3 w hm h2 hk (by rw [Int.tmod_eq_emod_of_nonneg (by omega)] at ha; exact ha) (by omega)
            · have hj : ins p 4 65536 n2 = false := by simpa using hj
              rw [rd_pair (x := 0) (y := 2) (by rw [rd, if_pos ⟨hm, hs⟩, if_neg hna, if_neg hp, if_neg (by rw [hi]; simp), if_neg (by rw [hj]; simp)])]
              exact iRead_none4 a1 a2 a3 p n1 c1 n2 c2 n3 c3 w hm hmax ha (by simpa using hp) hi hj
    · by_cases ha : (p.tmod 2 != 0) = true
      · rw [rd_pair (x := 0) (y := 1) (by rw [rd, if_pos ⟨hm, hs⟩, if_pos ha])]
        exact iRead_mis2 a1 a2 a3 p n1 c1 n2 c2 n3 c3 w hm ha
      · have hna := ha
        have ha : (p.tmod 2 != 0) = false := by simpa using ha
        by_cases hp : p = 131072
        · subst hp
          rw [rd_pair (x := 0) (y := 4) (by rw [rd, if_pos ⟨hm, hs⟩, if_neg hna, if_pos rfl])]
          exact iRead_port2 a1 a2 a3 n1 c1 n2 c2 n3 c3 w hm
        · by_cases hi : ins p 2 0 n1 = true
          · rw [rd_pair (by rw [rd, if_pos ⟨hm, hs⟩, if_neg hna, if_neg hp, if_pos hi])]
            have hi' := hi
            simp [ins] at hi'
            obtain ⟨k, rfl⟩ := Int.eq_ofNat_of_zero_le hi'.1
            obtain ⟨b, off, rfl⟩ := h1.some (by omega)
            exact iRead_flash2 b off a2 a3 x1 k n1 c1 n2 c2 n3 c3 w hm h1 (by rw [Int.tmod_eq_emod_of_nonneg (by omega)] at ha; exact ha) (by omega)
          · have hi : ins p 2 0 n1 = false := by simpa using hi
            by_cases hj : ins p 2 65536 n2 = true
            · rw [rd_pair (by rw [rd, if_pos ⟨hm, hs⟩, if_neg hna, if_neg hp, if_neg (by rw [hi]; simp), if_pos hj])]
              have hj' := hj
              simp [ins] at hj'
              obtain ⟨k, hk⟩ := Int.eq_ofNat_of_zero_le (show 0 ≤ p - 65536 by omega)
              obtain ⟨b, off, rfl⟩ := h2.some (by omega)
              rw [hk]
              exact iRead_ram2 b off a1 a3 x2 k p n1 c1 n2 c2 n3 c3 w hm h2 hk (by rw [Int.tmod_eq_emod_of_nonneg (by omega)] at ha; exact ha) (by omega)
            · have hj : ins p 2 65536 n2 = false := by simpa using hj
              rw [rd_pair (x := 0) (y := 2) (by rw [rd, if_pos ⟨hm, hs⟩, if_neg hna, if_neg hp, if_neg (by rw [hi]; simp), if_neg (by rw [hj]; simp)])]
              exact iRead_none2 a1 a2 a3 p n1 c1 n2 c2 n3 c3 w hm hmax ha (by simpa using hp) hi hj
    · by_cases ha : (p.tmod 1 != 0) = true
      · rw [tmod1] at ha
        exact absurd ha (by simp)
      · have hna := ha
        have ha : (p.tmod 1 != 0) = false := by simp
        by_cases hp : p = 131072
        · subst hp
          rw [rd_pair (x := 0) (y := 4) (by rw [rd, if_pos ⟨hm, hs⟩, if_neg hna, if_pos rfl])]
          exact iRead_port1 a1 a2 a3 n1 c1 n2 c2 n3 c3 w hm
        · by_cases hi : ins p 1 0 n1 = true
          · rw [rd_pair (by rw [rd, if_pos ⟨hm, hs⟩, if_neg hna, if_neg hp, if_pos hi])]
            have hi' := hi
            simp [ins] at hi'
            obtain ⟨k, rfl⟩ := Int.eq_ofNat_of_zero_le hi'.1
            obtain ⟨b, off, rfl⟩ := h1.some (by omega)
            exact iRead_flash1 b off a2 a3 x1 k n1 c1 n2 c2 n3 c3 w hm h1 (by rw [Int.tmod_eq_emod_of_nonneg (by omega)] at ha; exact ha) (by omega)
          · have hi : ins p 1 0 n1 = false := by simpa using hi
            by_cases hj : ins p 1 65536 n2 = true
            · rw [rd_pair (by rw [rd, if_pos ⟨hm, hs⟩, if_neg hna, if_neg hp, if_neg (by rw [hi]; simp), if_pos hj])]
              have hj' := hj
              simp [ins] at hj'
              obtain ⟨k, hk⟩ := Int.eq_ofNat_of_zero_le (show 0 ≤ p - 65536 by omega)
              obtain ⟨b, off, rfl⟩ := h2.some (by omega)
              rw [hk]
              exact iRead_ram1 b off a1 a3 x2 k p n1 c1 n2 c2 n3 c3 w hm h2 hk (by rw [Int.tmod_eq_emod_of_nonneg (by omega)] at ha; exact ha) (by omega)
            · have hj : ins p 1 65536 n2 = false := by simpa using hj
              rw [rd_pair (x := 0) (y := 2) (by rw [rd, if_pos ⟨hm, hs⟩, if_neg hna, if_neg hp, if_neg (by rw [hi]; simp), if_neg (by rw [hj]; simp)])]
              exact iRead_none1 a1 a2 a3 p n1 c1 n2 c2 n3 c3 w hm hmax ha (by simpa using hp) hi hj
  · rw [rd_pair (x := 0) (y := 2) (by rw [rd, if_neg hb])]
    refine iRead_bad a1 a2 a3 n1 c1 n2 c2 n3 c3 p s w ?_
    by_cases hm : mok n1 n2 n3 = true
    · right; by_cases hs : wd s = true
      · exact absurd ⟨hm, hs⟩ hb
      · simpa using hs
    · left; simpa using hm

end Go.Proofs.YtngdgogjlpjjpadGreat

namespace Go.Proofs.YtngdgogjlpjjpadGreat
open Go.RowKit
set_option linter.unusedVariables false

/-- WHAT A CALL MAY TURN: the blocks S, and new ones. -/
structure Turn (S : Nat → Prop) (w w' : World) : Prop where
  os : w'.os = w.os
  tape : w'.tape = w.tape
  output : w'.output = w.output
  size : w.heap.size ≤ w'.heap.size
  block : ∀ k, k < w.heap.size → ¬ S k → w'.heap[k]? = w.heap[k]?
theorem Turn.refl (S : Nat → Prop) (w : World) : Turn S w w := ⟨rfl, rfl, rfl, Nat.le_refl _, fun _ _ _ => rfl⟩
theorem Turn.trans {S : Nat → Prop} {a b c : World} (h : Turn S a b) (k : Turn S b c) : Turn S a c :=
  ⟨k.os.trans h.os, k.tape.trans h.tape, k.output.trans h.output, Nat.le_trans h.size k.size, fun j hj hs => (k.block j (Nat.lt_of_lt_of_le hj h.size) hs).trans (h.block j hj hs)⟩
theorem Turn.mono {S S' : Nat → Prop} {w w' : World} (h : Turn S w w') (hs : ∀ k, S k → S' k) : Turn S' w w' := ⟨h.os, h.tape, h.output, h.size, fun k hk hn => h.block k hk (fun e => hn (hs k e))⟩
theorem turn_below {S : Nat → Prop} {w w' : World} (h : Below w.heap.size w w') : Turn S w w' := ⟨h.os, h.tape, h.output, h.size, fun k hk _ => h.block k hk⟩
theorem turn_alloc {S : Nat → Prop} (w : World) (o : Obj) : Turn S w (w.alloc o) := turn_below ((Below.refl _ _).alloc (Nat.le_refl _) _)
theorem below_turn {B : Nat} {S : Nat → Prop} {a w w' : World} (h : Below B a w) (ht : Turn S w w') (hS : ∀ k, S k → B ≤ k) (hB : B ≤ w.heap.size) : Below B a w' :=
  ⟨ht.os.trans h.os, ht.tape.trans h.tape, ht.output.trans h.output, Nat.le_trans h.size ht.size, fun k hk => (ht.block k (by omega) (fun e => by have := hS k e; omega)).trans (h.block k hk)⟩
theorem turn_blk {S : Nat → Prop} {w w' : World} {k : Nat} {cs : Array Value} {t : TypeId} (ht : Turn S w w') (h : Blk w k cs t) (hk : ¬ S k) : Blk w' k cs t := by
  have := ht.block k h.lt hk
  unfold Blk at *; rw [this]; exact h
theorem turn_bs {S : Nat → Prop} {w w' : World} {a : Option Addr} {n cap : Nat} {zs : List Int} (ht : Turn S w w') (h : BS w a n cap zs) (hk : ∀ k, S k → ∀ b off, a = some ⟨b, off, none⟩ → b ≠ k) : BS w' a n cap zs := by
  obtain ⟨h1, h2, h3, h4, h5⟩ := h
  refine ⟨h1, h2, h3, fun hn => ?_, h5⟩
  obtain ⟨b, off, ha, hc⟩ := h4 hn
  refine ⟨b, off, ha, fun i hi => ?_⟩
  have := hc i hi
  have hl := World.block_lt_of_cell? w _ this
  rw [World.cell?_of_block (w := w) (ht.block b hl (fun e => hk b e b off ha rfl))]
  exact this

theorem addr_add (b off i : Nat) : (Addr.add ⟨b, off, none⟩ i) = ⟨b, off + i, none⟩ := by
  simp only [Addr.add]
  split
  · next h => subst h; rfl
  · rfl
end Go.Proofs.YtngdgogjlpjjpadGreat

namespace Go.Proofs.YtngdgogjlpjjpadGreat
open Go.RowKit
set_option linter.unusedVariables false

/-- A SLICE OF BYTES OF THE CALL's OWN, from block 'base' on. -/
def OB (w : World) (base : Nat) (v : Value) (zs : List Int) : Prop := w.ownsRow base 5 1 v zs.length (zs.map (Value.int .u8)) ∧ ∀ z ∈ zs, 0 ≤ z ∧ z ≤ 255

theorem bs_news {w : World} {b off n cap : Nat} {zs : List Int} (h : BS w (some ⟨b, off, none⟩) n cap zs) : ∀ j u, (zs.map (Value.int .u8))[j]? = some u → w.cell? ((⟨b, off, none⟩ : Addr).add j) = some u := by
  intro j u hj
  have hl := h.1
  have hjl : j < n := by
    by_cases e : j < n
    · exact e
    · rw [List.getElem?_eq_none (by simp; omega)] at hj; simp at hj
  rw [addr_add, h.at j hjl]
  rw [← hj]
  simp [List.getD_eq_getElem?_getD, show j < zs.length by omega]
theorem own_empty (w : World) : (w.alloc (.cells #[] 5)).ownsRow w.heap.size 5 1 (.slice (some ⟨w.heap.size, 0, none⟩) 0 0) 0 [] :=
  ⟨rfl, .inr ⟨w.heap.size, 0, #[], rfl, Nat.le_refl _, heap_alloc_new w _, Nat.le_refl _, Nat.zero_le _, rfl, rfl⟩⟩
theorem own_shape {w : World} {base n : Nat} {t : TypeId} {v : Value} {xs : List Value} (h : w.ownsRow base t 1 v n xs) : ∃ a cap, v = .slice a n cap := by
  obtain ⟨_, ⟨rfl, rfl⟩ | ⟨g, cap, cur, rfl, _⟩⟩ := h
  · exact ⟨_, _, rfl⟩
  · exact ⟨_, _, rfl⟩
theorem below_grown' {B : Nat} {a w w' : World} {k : Nat} (h : Below B a w) (hg : w.grownBy w' (some k)) (hB : B ≤ w.heap.size) (hk : B ≤ k) : Below B a w' := h.grown hg hB (fun j hj => by cases hj; exact hk)

set_option maxHeartbeats 1000000 in
theorem l1Bytes_any (b off n cap : Nat) (zs : List Int) (w : World) (h : BS w (some ⟨b, off, none⟩) n cap zs) (hn : n ≤ 1048576) :
    Calls Tryz.prog 160 #[.slice (some ⟨b, off, none⟩) n cap] w fun e w' => ∃ a cap', e = .returned (.slice a n cap') ∧ OB w' w.heap.size (.slice a n cap') zs ∧ Below w.heap.size w w' := by
  obtain ⟨i0, hi, hz0, hz1, hz2⟩ := info_parts info8
  have hl := h.1
  have h' := h.below ((Below.refl w.heap.size w).alloc (Nat.le_refl _) (.cells #[] 5))
  have hnews := hide (bs_news h')
  have hone := hide (ints_oneCell .u8 zs)
  have hown := hide (own_empty w)
  have hlen := hide (show (zs.map (Value.int .u8)).length = n * 1 by simp; omega)
  go_enter Tryz.func160, Tryz.ntmps160
  go_wp2_with (at_builtin; refine wpList_append_own _ rfl _ _ 22 rfl w.heap.size 5 i0 (.int .u8 0) 1 1 Tryz.underlying22 hi hz0 hz1 hz2 rfl (by decide) _ 0 [] rfl hown.out ⟨b, off, none⟩ n cap (zs.map (Value.int .u8)) rfl hlen.out hnews.out hone.out (by unfold maxLen; omega) (by omega) (by simp) ?_; intro v' w1 hown1 hgr1 _)
  simp only [Nat.zero_add, List.nil_append] at hown1
  have hex := own_shape hown1
  go_ret
  obtain ⟨a', cap', he⟩ := hex
  refine ⟨a', cap', by rw [← he]; rfl, ⟨?_, h.2.2.1⟩, ?_⟩
  · rw [hl, ← he]
    exact hown1
  · exact below_grown' ((Below.refl w.heap.size w).alloc (Nat.le_refl _) _) hgr1 (by simp) (Nat.le_refl _)

set_option maxHeartbeats 1000000 in
theorem clone_any (b off n cap : Nat) (zs : List Int) (w : World) (h : BS w (some ⟨b, off, none⟩) n cap zs) (hn : n ≤ 1048576) :
    Calls Tryz.prog 169 #[.slice (some ⟨b, off, none⟩) n cap] w fun e w' => ∃ a cap', e = .returned (.slice a n cap') ∧ OB w' w.heap.size (.slice a n cap') zs ∧ Below w.heap.size w w' := by
  obtain ⟨i0, hi, hz0, hz1, hz2⟩ := info_parts info8
  have hl := h.1
  have h' := h.below ((Below.refl w.heap.size w).alloc (Nat.le_refl _) (.cells #[] 5))
  have hnews := hide (bs_news h')
  have hone := hide (ints_oneCell .u8 zs)
  have hown := hide (own_empty w)
  have hlen := hide (show (zs.map (Value.int .u8)).length = n * 1 by simp; omega)
  have hnil := fun (w : World) => Lib.run_eql_slice_nil (P := Tryz.prog) w 22 5 (some ⟨b, off, none⟩) n cap 0 0 Tryz.underlying22
  go_enter Tryz.func169, Tryz.ntmps169
  go_wp2_with (at_builtin; refine wpList_append_own _ rfl _ _ 22 rfl w.heap.size 5 i0 (.int .u8 0) 1 1 Tryz.underlying22 hi hz0 hz1 hz2 rfl (by decide) _ 0 [] rfl hown.out ⟨b, off, none⟩ n cap (zs.map (Value.int .u8)) rfl hlen.out hnews.out hone.out (by unfold maxLen; omega) (by omega) (by simp) ?_; intro v' w1 hown1 hgr1 _)
  simp only [Nat.zero_add, List.nil_append] at hown1
  have hex := own_shape hown1
  go_ret
  obtain ⟨a', cap', he⟩ := hex
  refine ⟨a', cap', by rw [← he]; rfl, ⟨?_, h.2.2.1⟩, ?_⟩
  · rw [hl, ← he]
    exact hown1
  · exact below_grown' ((Below.refl w.heap.size w).alloc (Nat.le_refl _) _) hgr1 (by simp) (Nat.le_refl _)
end Go.Proofs.YtngdgogjlpjjpadGreat
