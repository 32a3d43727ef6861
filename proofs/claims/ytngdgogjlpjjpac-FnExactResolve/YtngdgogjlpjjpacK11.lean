import Derived.Test.YtngdgogjlpjjpacK10
namespace Go.Proofs.Ytngdgogjlpjjpac
open Go.RowKit
set_option linter.unusedVariables false

set_option maxHeartbeats 1000000 in
theorem acc_bad (a1 a2 a3 : Option Addr) (n1 c1 n2 c2 n3 c3 : Nat) (p s : Int) (w : World) (h : mok n1 n2 n3 = false ∨ wd s = false) :
    Calls Try.prog 51 #[.agg #[.slice a1 n1 c1, .slice a2 n2 c2, .slice a3 n3 c3], .int .i64 p, .int .i64 s] w fun e w' => e = .returned (.int .i64 2) ∧ Below w.heap.size w w' := by
  have hB0 : Below w.heap.size w (w.alloc (.cells #[.slice a1 n1 c1, .slice a2 n2 c2, .slice a3 n3 c3] 24)) := (Below.refl _ _).alloc (Nat.le_refl _) _
  by_cases hm : mok n1 n2 n3 = false
  · clear h
    go_enter Try.func51, Try.ntmps51
    go_wp2_with fail
    refine (iMemOk_any a1 a2 a3 n1 c1 n2 c2 n3 c3 _).mono ?_
    rw [hm]
    rintro e w1 ⟨rfl, hb1⟩
    go_wp2
    go_ret
    exact ⟨rfl, hB0.trans (hb1.mono (by simp))⟩
  · have hs : wd s = false := by rcases h with h | h; exact absurd h hm; exact h
    have hm : mok n1 n2 n3 = true := by simpa using hm
    clear h
    go_enter Try.func51, Try.ntmps51
    go_wp2_with fail
    refine (iMemOk_any a1 a2 a3 n1 c1 n2 c2 n3 c3 _).mono ?_
    rw [hm]
    rintro e w1 ⟨rfl, hb1⟩
    go_wp2_with fail
    refine (isWidth_any s _).mono ?_
    rw [hs]
    rintro e w2 ⟨rfl, rfl⟩
    go_wp2
    go_ret
    exact ⟨rfl, hB0.trans (hb1.mono (by simp))⟩

set_option maxHeartbeats 1000000 in
theorem acc_mis4 (a1 a2 a3 : Option Addr) (n1 c1 n2 c2 n3 c3 : Nat) (p : Int) (w : World) (h : mok n1 n2 n3 = true) (hm : (p.tmod 4 != 0) = true) :
    Calls Try.prog 51 #[.agg #[.slice a1 n1 c1, .slice a2 n2 c2, .slice a3 n3 c3], .int .i64 p, .int .i64 4] w fun e w' => e = .returned (.int .i64 1) ∧ Below w.heap.size w w' := by
  have hB0 : Below w.heap.size w (w.alloc (.cells #[.slice a1 n1 c1, .slice a2 n2 c2, .slice a3 n3 c3] 24)) := (Below.refl _ _).alloc (Nat.le_refl _) _
  go_enter Try.func51, Try.ntmps51
  go_wp2_with fail
  refine (iMemOk_any a1 a2 a3 n1 c1 n2 c2 n3 c3 _).mono ?_
  rw [h]
  rintro e w1 ⟨rfl, hb1⟩
  have k1 := (Blk.new w #[.slice a1 n1 c1, .slice a2 n2 c2, .slice a3 n3 c3] 24).below hb1
  have hB1 := hB0.trans (hb1.mono (by simp))
  obtain ⟨q1, q2, q3, q4⟩ := k1.three
  clear hb1 k1
  go_wp2_with fail
  refine (isWidth_any 4 _).mono ?_
  rw [wd4]
  rintro e w2 ⟨rfl, rfl⟩
  go_wp2
  go_ret
  exact ⟨rfl, hB1⟩

set_option maxHeartbeats 1000000 in
theorem acc_ok4 (a1 a2 a3 : Option Addr) (n1 c1 n2 c2 n3 c3 : Nat) (p : Int) (w : World) (h : mok n1 n2 n3 = true) (hm : (p.tmod 4 != 0) = false) :
    Calls Try.prog 51 #[.agg #[.slice a1 n1 c1, .slice a2 n2 c2, .slice a3 n3 c3], .int .i64 p, .int .i64 4] w fun e w' => e = .returned (.int .i64 0) ∧ Below w.heap.size w w' := by
  have hB0 : Below w.heap.size w (w.alloc (.cells #[.slice a1 n1 c1, .slice a2 n2 c2, .slice a3 n3 c3] 24)) := (Below.refl _ _).alloc (Nat.le_refl _) _
  go_enter Try.func51, Try.ntmps51
  go_wp2_with fail
  refine (iMemOk_any a1 a2 a3 n1 c1 n2 c2 n3 c3 _).mono ?_
  rw [h]
  rintro e w1 ⟨rfl, hb1⟩
  have k1 := (Blk.new w #[.slice a1 n1 c1, .slice a2 n2 c2, .slice a3 n3 c3] 24).below hb1
  have hB1 := hB0.trans (hb1.mono (by simp))
  obtain ⟨q1, q2, q3, q4⟩ := k1.three
  clear hb1 k1
  go_wp2_with fail
  refine (isWidth_any 4 _).mono ?_
  rw [wd4]
  rintro e w2 ⟨rfl, rfl⟩
  go_wp2
  go_ret
  exact ⟨rfl, hB1⟩

set_option maxHeartbeats 1000000 in
theorem acc_mis2 (a1 a2 a3 : Option Addr) (n1 c1 n2 c2 n3 c3 : Nat) (p : Int) (w : World) (h : mok n1 n2 n3 = true) (hm : (p.tmod 2 != 0) = true) :
    Calls Try.prog 51 #[.agg #[.slice a1 n1 c1, .slice a2 n2 c2, .slice a3 n3 c3], .int .i64 p, .int .i64 2] w fun e w' => e = .returned (.int .i64 1) ∧ Below w.heap.size w w' := by
  have hB0 : Below w.heap.size w (w.alloc (.cells #[.slice a1 n1 c1, .slice a2 n2 c2, .slice a3 n3 c3] 24)) := (Below.refl _ _).alloc (Nat.le_refl _) _
  go_enter Try.func51, Try.ntmps51
  go_wp2_with fail
  refine (iMemOk_any a1 a2 a3 n1 c1 n2 c2 n3 c3 _).mono ?_
  rw [h]
  rintro e w1 ⟨rfl, hb1⟩
  have k1 := (Blk.new w #[.slice a1 n1 c1, .slice a2 n2 c2, .slice a3 n3 c3] 24).below hb1
  have hB1 := hB0.trans (hb1.mono (by simp))
  obtain ⟨q1, q2, q3, q4⟩ := k1.three
  clear hb1 k1
  go_wp2_with fail
  refine (isWidth_any 2 _).mono ?_
  rw [wd2]
  rintro e w2 ⟨rfl, rfl⟩
  go_wp2
  go_ret
  exact ⟨rfl, hB1⟩

set_option maxHeartbeats 1000000 in
theorem acc_ok2 (a1 a2 a3 : Option Addr) (n1 c1 n2 c2 n3 c3 : Nat) (p : Int) (w : World) (h : mok n1 n2 n3 = true) (hm : (p.tmod 2 != 0) = false) :
    Calls Try.prog 51 #[.agg #[.slice a1 n1 c1, .slice a2 n2 c2, .slice a3 n3 c3], .int .i64 p, .int .i64 2] w fun e w' => e = .returned (.int .i64 0) ∧ Below w.heap.size w w' := by
  have hB0 : Below w.heap.size w (w.alloc (.cells #[.slice a1 n1 c1, .slice a2 n2 c2, .slice a3 n3 c3] 24)) := (Below.refl _ _).alloc (Nat.le_refl _) _
  go_enter Try.func51, Try.ntmps51
  go_wp2_with fail
  refine (iMemOk_any a1 a2 a3 n1 c1 n2 c2 n3 c3 _).mono ?_
  rw [h]
  rintro e w1 ⟨rfl, hb1⟩
  have k1 := (Blk.new w #[.slice a1 n1 c1, .slice a2 n2 c2, .slice a3 n3 c3] 24).below hb1
  have hB1 := hB0.trans (hb1.mono (by simp))
  obtain ⟨q1, q2, q3, q4⟩ := k1.three
  clear hb1 k1
  go_wp2_with fail
  refine (isWidth_any 2 _).mono ?_
  rw [wd2]
  rintro e w2 ⟨rfl, rfl⟩
  go_wp2
  go_ret
  exact ⟨rfl, hB1⟩

set_option maxHeartbeats 1000000 in
theorem acc_ok1 (a1 a2 a3 : Option Addr) (n1 c1 n2 c2 n3 c3 : Nat) (p : Int) (w : World) (h : mok n1 n2 n3 = true) (hm : (p.tmod 1 != 0) = false) :
    Calls Try.prog 51 #[.agg #[.slice a1 n1 c1, .slice a2 n2 c2, .slice a3 n3 c3], .int .i64 p, .int .i64 1] w fun e w' => e = .returned (.int .i64 0) ∧ Below w.heap.size w w' := by
  have hB0 : Below w.heap.size w (w.alloc (.cells #[.slice a1 n1 c1, .slice a2 n2 c2, .slice a3 n3 c3] 24)) := (Below.refl _ _).alloc (Nat.le_refl _) _
  go_enter Try.func51, Try.ntmps51
  go_wp2_with fail
  refine (iMemOk_any a1 a2 a3 n1 c1 n2 c2 n3 c3 _).mono ?_
  rw [h]
  rintro e w1 ⟨rfl, hb1⟩
  have k1 := (Blk.new w #[.slice a1 n1 c1, .slice a2 n2 c2, .slice a3 n3 c3] 24).below hb1
  have hB1 := hB0.trans (hb1.mono (by simp))
  obtain ⟨q1, q2, q3, q4⟩ := k1.three
  clear hb1 k1
  go_wp2_with fail
  refine (isWidth_any 1 _).mono ?_
  rw [wd1]
  rintro e w2 ⟨rfl, rfl⟩
  go_wp2
  go_ret
  exact ⟨rfl, hB1⟩

set_option maxHeartbeats 1000000 in
theorem iRead_bad (a1 a2 a3 : Option Addr) (n1 c1 n2 c2 n3 c3 : Nat) (p s : Int) (w : World) (h : mok n1 n2 n3 = false ∨ wd s = false) :
    Calls Try.prog 15 #[.agg #[.slice a1 n1 c1, .slice a2 n2 c2, .slice a3 n3 c3], .int .i64 p, .int .i64 s] w fun e w' => e = .returned (.tuple #[.int .i64 0, .int .i64 2]) ∧ Below w.heap.size w w' := by
  have hB0 : Below w.heap.size w (w.alloc (.cells #[.slice a1 n1 c1, .slice a2 n2 c2, .slice a3 n3 c3] 24)) := (Below.refl _ _).alloc (Nat.le_refl _) _
  go_enter Try.func15, Try.ntmps15
  go_wp2_with fail
  refine (acc_bad a1 a2 a3 n1 c1 n2 c2 n3 c3 _ s _ h).mono ?_
  rintro e w1 ⟨rfl, hb1⟩
  have k1 := (Blk.new w #[.slice a1 n1 c1, .slice a2 n2 c2, .slice a3 n3 c3] 24).below hb1
  have hB1 := hB0.trans (hb1.mono (by simp))
  obtain ⟨q1, q2, q3, q4⟩ := k1.three
  clear hb1 k1
  clear h
  go_wp2
  go_ret2
  exact ⟨rfl, hB1⟩

set_option maxHeartbeats 1000000 in
theorem iRead_mis4 (a1 a2 a3 : Option Addr) (p : Int) (n1 c1 n2 c2 n3 c3 : Nat) (w : World) (h : mok n1 n2 n3 = true) (hm : (p.tmod 4 != 0) = true) :
    Calls Try.prog 15 #[.agg #[.slice a1 n1 c1, .slice a2 n2 c2, .slice a3 n3 c3], .int .i64 p, .int .i64 4] w fun e w' => e = .returned (.tuple #[.int .i64 0, .int .i64 1]) ∧ Below w.heap.size w w' := by
  have hB0 : Below w.heap.size w (w.alloc (.cells #[.slice a1 n1 c1, .slice a2 n2 c2, .slice a3 n3 c3] 24)) := (Below.refl _ _).alloc (Nat.le_refl _) _
  obtain ⟨hn1, hn2, hn3⟩ := mok1 h
  go_enter Try.func15, Try.ntmps15
  go_wp2_with fail
  refine (acc_mis4 a1 a2 a3 n1 c1 n2 c2 n3 c3 _ _ h hm).mono ?_
  rintro e w1 ⟨rfl, hb1⟩
  have k1 := (Blk.new w #[.slice a1 n1 c1, .slice a2 n2 c2, .slice a3 n3 c3] 24).below hb1
  have hB1 := hB0.trans (hb1.mono (by simp))
  obtain ⟨q1, q2, q3, q4⟩ := k1.three
  clear hb1 k1
  go_wp2
  go_ret2
  exact ⟨rfl, hB1⟩

set_option maxHeartbeats 1000000 in
theorem iRead_port4 (a1 a2 a3 : Option Addr) (n1 c1 n2 c2 n3 c3 : Nat) (w : World) (h : mok n1 n2 n3 = true)  :
    Calls Try.prog 15 #[.agg #[.slice a1 n1 c1, .slice a2 n2 c2, .slice a3 n3 c3], .int .i64 131072, .int .i64 4] w fun e w' => e = .returned (.tuple #[.int .i64 0, .int .i64 4]) ∧ Below w.heap.size w w' := by
  have hB0 : Below w.heap.size w (w.alloc (.cells #[.slice a1 n1 c1, .slice a2 n2 c2, .slice a3 n3 c3] 24)) := (Below.refl _ _).alloc (Nat.le_refl _) _
  obtain ⟨hn1, hn2, hn3⟩ := mok1 h
  go_enter Try.func15, Try.ntmps15
  go_wp2_with fail
  refine (acc_ok4 a1 a2 a3 n1 c1 n2 c2 n3 c3 _ _ h (by decide)).mono ?_
  rintro e w1 ⟨rfl, hb1⟩
  have k1 := (Blk.new w #[.slice a1 n1 c1, .slice a2 n2 c2, .slice a3 n3 c3] 24).below hb1
  have hB1 := hB0.trans (hb1.mono (by simp))
  obtain ⟨q1, q2, q3, q4⟩ := k1.three
  clear hb1 k1
  go_wp2
  go_ret2
  exact ⟨rfl, hB1⟩

set_option maxHeartbeats 1000000 in
theorem iRead_none4 (a1 a2 a3 : Option Addr) (p : Int) (n1 c1 n2 c2 n3 c3 : Nat) (w : World) (h : mok n1 n2 n3 = true) (hmax : p ≤ 9223372036854775807) (hm : (p.tmod 4 != 0) = false) (hp : (p == 131072) = false) (hi : ins p 4 0 n1 = false) (hj : ins p 4 65536 n2 = false) :
    Calls Try.prog 15 #[.agg #[.slice a1 n1 c1, .slice a2 n2 c2, .slice a3 n3 c3], .int .i64 p, .int .i64 4] w fun e w' => e = .returned (.tuple #[.int .i64 0, .int .i64 2]) ∧ Below w.heap.size w w' := by
  have hB0 : Below w.heap.size w (w.alloc (.cells #[.slice a1 n1 c1, .slice a2 n2 c2, .slice a3 n3 c3] 24)) := (Below.refl _ _).alloc (Nat.le_refl _) _
  obtain ⟨hn1, hn2, hn3⟩ := mok1 h
  go_enter Try.func15, Try.ntmps15
  go_wp2_with fail
  refine (acc_ok4 a1 a2 a3 n1 c1 n2 c2 n3 c3 _ _ h hm).mono ?_
  rintro e w1 ⟨rfl, hb1⟩
  have k1 := (Blk.new w #[.slice a1 n1 c1, .slice a2 n2 c2, .slice a3 n3 c3] 24).below hb1
  have hB1 := hB0.trans (hb1.mono (by simp))
  obtain ⟨q1, q2, q3, q4⟩ := k1.three
  clear hb1 k1
  go_wp2_with fail
  refine (holds_any a1 n1 c1 _ 4 0 _ (by omega) (by omega) (by omega) (by omega) (by omega) (by omega)).mono ?_
  rw [hi]
  rintro e w2 ⟨rfl, rfl⟩
  go_wp2_with fail
  refine (holds_any a2 n2 c2 _ 4 65536 _ (by omega) (by omega) (by omega) (by omega) (by omega) (by omega)).mono ?_
  rw [hj]
  rintro e w2 ⟨rfl, rfl⟩
  go_wp2
  go_ret2
  exact ⟨rfl, hB1⟩

set_option maxHeartbeats 1000000 in
theorem iRead_flash4 (b off : Nat) (a2 a3 : Option Addr) (x1 : List Int) (k : Nat) (n1 c1 n2 c2 n3 c3 : Nat) (w : World) (h : mok n1 n2 n3 = true) (h1 : BS w (some ⟨b, off, none⟩) n1 c1 x1) (hm : ((k : Int) % 4 != 0) = false) (hk : k + 4 ≤ n1) :
    Calls Try.prog 15 #[.agg #[.slice (some ⟨b, off, none⟩) n1 c1, .slice a2 n2 c2, .slice a3 n3 c3], .int .i64 k, .int .i64 4] w fun e w' => e = .returned (.tuple #[.int .i64 (low ((x1.drop k).take 4)), .int .i64 0]) ∧ Below w.heap.size w w' := by
  have hB0 : Below w.heap.size w (w.alloc (.cells #[.slice (some ⟨b, off, none⟩) n1 c1, .slice a2 n2 c2, .slice a3 n3 c3] 24)) := (Below.refl _ _).alloc (Nat.le_refl _) _
  obtain ⟨hn1, hn2, hn3⟩ := mok1 h
  have hp : ((k : Int) == 131072) = false := by simp; omega
  have hi : ins (k : Int) 4 0 n1 = true := by unfold ins; simp; omega
  have hcap := h1.2.2.2.2
  have hm' : ((k : Int).tmod 4 != 0) = false := by rw [Int.tmod_eq_emod_of_nonneg (by omega)]; exact hm
  go_enter Try.func15, Try.ntmps15
  go_wp2_with fail
  refine (acc_ok4 (some ⟨b, off, none⟩) a2 a3 n1 c1 n2 c2 n3 c3 _ _ h hm').mono ?_
  rintro e w1 ⟨rfl, hb1⟩
  have k1 := (Blk.new w #[.slice (some ⟨b, off, none⟩) n1 c1, .slice a2 n2 c2, .slice a3 n3 c3] 24).below hb1
  have hB1 := hB0.trans (hb1.mono (by simp))
  obtain ⟨q1, q2, q3, q4⟩ := k1.three
  clear hb1 k1
  go_wp2_with fail
  refine (holds_any (some ⟨b, off, none⟩) n1 c1 _ 4 0 _ (by omega) (by omega) (by omega) (by omega) (by omega) (by omega)).mono ?_
  rw [hi]
  rintro e w2 ⟨rfl, rfl⟩
  go_wp2_with fail
  refine (getBytes_4 b (off + k) (n1 - k) (c1 - k) _ _ ((h1.below hB1).drop k (by omega)) (by omega)).mono ?_
  rintro e w3 ⟨rfl, hb3⟩
  go_wp2
  go_ret2
  exact ⟨rfl, hB1.trans (hb3.mono hB1.size)⟩

set_option maxHeartbeats 1000000 in
theorem iRead_ram4 (b off : Nat) (a1 a3 : Option Addr) (x2 : List Int) (k : Nat) (p : Int) (n1 c1 n2 c2 n3 c3 : Nat) (w : World) (h : mok n1 n2 n3 = true) (h2 : BS w (some ⟨b, off, none⟩) n2 c2 x2) (hpk : p - 65536 = (k : Int)) (hm : (p % 4 != 0) = false) (hk : k + 4 ≤ n2) :
    Calls Try.prog 15 #[.agg #[.slice a1 n1 c1, .slice (some ⟨b, off, none⟩) n2 c2, .slice a3 n3 c3], .int .i64 p, .int .i64 4] w fun e w' => e = .returned (.tuple #[.int .i64 (low ((x2.drop k).take 4)), .int .i64 0]) ∧ Below w.heap.size w w' := by
  have hB0 : Below w.heap.size w (w.alloc (.cells #[.slice a1 n1 c1, .slice (some ⟨b, off, none⟩) n2 c2, .slice a3 n3 c3] 24)) := (Below.refl _ _).alloc (Nat.le_refl _) _
  obtain ⟨hn1, hn2, hn3⟩ := mok1 h
  have hp : (p == 131072) = false := by simp; omega
  have hi : ins p 4 0 n1 = false := by unfold ins; simp; omega
  have hj : ins p 4 65536 n2 = true := by unfold ins; simp; omega
  have hcap := h2.2.2.2.2
  have hp0 : 65536 ≤ p := by omega
  have hp1 : p ≤ 131072 := by omega
  have hm' : (p.tmod 4 != 0) = false := by rw [Int.tmod_eq_emod_of_nonneg (by omega)]; exact hm
  go_enter Try.func15, Try.ntmps15
  go_wp2_with fail
  refine (acc_ok4 a1 (some ⟨b, off, none⟩) a3 n1 c1 n2 c2 n3 c3 _ _ h hm').mono ?_
  rintro e w1 ⟨rfl, hb1⟩
  have k1 := (Blk.new w #[.slice a1 n1 c1, .slice (some ⟨b, off, none⟩) n2 c2, .slice a3 n3 c3] 24).below hb1
  have hB1 := hB0.trans (hb1.mono (by simp))
  obtain ⟨q1, q2, q3, q4⟩ := k1.three
  clear hb1 k1
  go_wp2_with fail
  refine (holds_any a1 n1 c1 _ 4 0 _ (by omega) (by omega) (by omega) (by omega) (by omega) (by omega)).mono ?_
  rw [hi]
  rintro e w2 ⟨rfl, rfl⟩
  go_wp2_with fail
  refine (holds_any (some ⟨b, off, none⟩) n2 c2 _ 4 65536 _ (by omega) (by omega) (by omega) (by omega) (by omega) (by omega)).mono ?_
  rw [hj]
  rintro e w2 ⟨rfl, rfl⟩
  go_wp2_with fail
  refine (getBytes_4 b (off + k) (n2 - k) (c2 - k) _ _ ((h2.below hB1).drop k (by omega)) (by omega)).mono ?_
  rintro e w3 ⟨rfl, hb3⟩
  go_wp2
  go_ret2
  exact ⟨rfl, hB1.trans (hb3.mono hB1.size)⟩

set_option maxHeartbeats 1000000 in
theorem iRead_mis2 (a1 a2 a3 : Option Addr) (p : Int) (n1 c1 n2 c2 n3 c3 : Nat) (w : World) (h : mok n1 n2 n3 = true) (hm : (p.tmod 2 != 0) = true) :
    Calls Try.prog 15 #[.agg #[.slice a1 n1 c1, .slice a2 n2 c2, .slice a3 n3 c3], .int .i64 p, .int .i64 2] w fun e w' => e = .returned (.tuple #[.int .i64 0, .int .i64 1]) ∧ Below w.heap.size w w' := by
  have hB0 : Below w.heap.size w (w.alloc (.cells #[.slice a1 n1 c1, .slice a2 n2 c2, .slice a3 n3 c3] 24)) := (Below.refl _ _).alloc (Nat.le_refl _) _
  obtain ⟨hn1, hn2, hn3⟩ := mok1 h
  go_enter Try.func15, Try.ntmps15
  go_wp2_with fail
  refine (acc_mis2 a1 a2 a3 n1 c1 n2 c2 n3 c3 _ _ h hm).mono ?_
  rintro e w1 ⟨rfl, hb1⟩
  have k1 := (Blk.new w #[.slice a1 n1 c1, .slice a2 n2 c2, .slice a3 n3 c3] 24).below hb1
  have hB1 := hB0.trans (hb1.mono (by simp))
  obtain ⟨q1, q2, q3, q4⟩ := k1.three
  clear hb1 k1
  go_wp2
  go_ret2
  exact ⟨rfl, hB1⟩

set_option maxHeartbeats 1000000 in
theorem iRead_port2 (a1 a2 a3 : Option Addr) (n1 c1 n2 c2 n3 c3 : Nat) (w : World) (h : mok n1 n2 n3 = true)  :
    Calls Try.prog 15 #[.agg #[.slice a1 n1 c1, .slice a2 n2 c2, .slice a3 n3 c3], .int .i64 131072, .int .i64 2] w fun e w' => e = .returned (.tuple #[.int .i64 0, .int .i64 4]) ∧ Below w.heap.size w w' := by
  have hB0 : Below w.heap.size w (w.alloc (.cells #[.slice a1 n1 c1, .slice a2 n2 c2, .slice a3 n3 c3] 24)) := (Below.refl _ _).alloc (Nat.le_refl _) _
  obtain ⟨hn1, hn2, hn3⟩ := mok1 h
  go_enter Try.func15, Try.ntmps15
  go_wp2_with fail
  refine (acc_ok2 a1 a2 a3 n1 c1 n2 c2 n3 c3 _ _ h (by decide)).mono ?_
  rintro e w1 ⟨rfl, hb1⟩
  have k1 := (Blk.new w #[.slice a1 n1 c1, .slice a2 n2 c2, .slice a3 n3 c3] 24).below hb1
  have hB1 := hB0.trans (hb1.mono (by simp))
  obtain ⟨q1, q2, q3, q4⟩ := k1.three
  clear hb1 k1
  go_wp2
  go_ret2
  exact ⟨rfl, hB1⟩

set_option maxHeartbeats 1000000 in
theorem iRead_none2 (a1 a2 a3 : Option Addr) (p : Int) (n1 c1 n2 c2 n3 c3 : Nat) (w : World) (h : mok n1 n2 n3 = true) (hmax : p ≤ 9223372036854775807) (hm : (p.tmod 2 != 0) = false) (hp : (p == 131072) = false) (hi : ins p 2 0 n1 = false) (hj : ins p 2 65536 n2 = false) :
    Calls Try.prog 15 #[.agg #[.slice a1 n1 c1, .slice a2 n2 c2, .slice a3 n3 c3], .int .i64 p, .int .i64 2] w fun e w' => e = .returned (.tuple #[.int .i64 0, .int .i64 2]) ∧ Below w.heap.size w w' := by
  have hB0 : Below w.heap.size w (w.alloc (.cells #[.slice a1 n1 c1, .slice a2 n2 c2, .slice a3 n3 c3] 24)) := (Below.refl _ _).alloc (Nat.le_refl _) _
  obtain ⟨hn1, hn2, hn3⟩ := mok1 h
  go_enter Try.func15, Try.ntmps15
  go_wp2_with fail
  refine (acc_ok2 a1 a2 a3 n1 c1 n2 c2 n3 c3 _ _ h hm).mono ?_
  rintro e w1 ⟨rfl, hb1⟩
  have k1 := (Blk.new w #[.slice a1 n1 c1, .slice a2 n2 c2, .slice a3 n3 c3] 24).below hb1
  have hB1 := hB0.trans (hb1.mono (by simp))
  obtain ⟨q1, q2, q3, q4⟩ := k1.three
  clear hb1 k1
  go_wp2_with fail
  refine (holds_any a1 n1 c1 _ 2 0 _ (by omega) (by omega) (by omega) (by omega) (by omega) (by omega)).mono ?_
  rw [hi]
  rintro e w2 ⟨rfl, rfl⟩
  go_wp2_with fail
  refine (holds_any a2 n2 c2 _ 2 65536 _ (by omega) (by omega) (by omega) (by omega) (by omega) (by omega)).mono ?_
  rw [hj]
  rintro e w2 ⟨rfl, rfl⟩
  go_wp2
  go_ret2
  exact ⟨rfl, hB1⟩

set_option maxHeartbeats 1000000 in
theorem iRead_flash2 (b off : Nat) (a2 a3 : Option Addr) (x1 : List Int) (k : Nat) (n1 c1 n2 c2 n3 c3 : Nat) (w : World) (h : mok n1 n2 n3 = true) (h1 : BS w (some ⟨b, off, none⟩) n1 c1 x1) (hm : ((k : Int) % 2 != 0) = false) (hk : k + 2 ≤ n1) :
    Calls Try.prog 15 #[.agg #[.slice (some ⟨b, off, none⟩) n1 c1, .slice a2 n2 c2, .slice a3 n3 c3], .int .i64 k, .int .i64 2] w fun e w' => e = .returned (.tuple #[.int .i64 (low ((x1.drop k).take 2)), .int .i64 0]) ∧ Below w.heap.size w w' := by
  have hB0 : Below w.heap.size w (w.alloc (.cells #[.slice (some ⟨b, off, none⟩) n1 c1, .slice a2 n2 c2, .slice a3 n3 c3] 24)) := (Below.refl _ _).alloc (Nat.le_refl _) _
  obtain ⟨hn1, hn2, hn3⟩ := mok1 h
  have hp : ((k : Int) == 131072) = false := by simp; omega
  have hi : ins (k : Int) 2 0 n1 = true := by unfold ins; simp; omega
  have hcap := h1.2.2.2.2
  have hm' : ((k : Int).tmod 2 != 0) = false := by rw [Int.tmod_eq_emod_of_nonneg (by omega)]; exact hm
  go_enter Try.func15, Try.ntmps15
  go_wp2_with fail
  refine (acc_ok2 (some ⟨b, off, none⟩) a2 a3 n1 c1 n2 c2 n3 c3 _ _ h hm').mono ?_
  rintro e w1 ⟨rfl, hb1⟩
  have k1 := (Blk.new w #[.slice (some ⟨b, off, none⟩) n1 c1, .slice a2 n2 c2, .slice a3 n3 c3] 24).below hb1
  have hB1 := hB0.trans (hb1.mono (by simp))
  obtain ⟨q1, q2, q3, q4⟩ := k1.three
  clear hb1 k1
  go_wp2_with fail
  refine (holds_any (some ⟨b, off, none⟩) n1 c1 _ 2 0 _ (by omega) (by omega) (by omega) (by omega) (by omega) (by omega)).mono ?_
  rw [hi]
  rintro e w2 ⟨rfl, rfl⟩
  go_wp2_with fail
  refine (getBytes_2 b (off + k) (n1 - k) (c1 - k) _ _ ((h1.below hB1).drop k (by omega)) (by omega)).mono ?_
  rintro e w3 ⟨rfl, hb3⟩
  go_wp2
  go_ret2
  exact ⟨rfl, hB1.trans (hb3.mono hB1.size)⟩

set_option maxHeartbeats 1000000 in
theorem iRead_ram2 (b off : Nat) (a1 a3 : Option Addr) (x2 : List Int) (k : Nat) (p : Int) (n1 c1 n2 c2 n3 c3 : Nat) (w : World) (h : mok n1 n2 n3 = true) (h2 : BS w (some ⟨b, off, none⟩) n2 c2 x2) (hpk : p - 65536 = (k : Int)) (hm : (p % 2 != 0) = false) (hk : k + 2 ≤ n2) :
    Calls Try.prog 15 #[.agg #[.slice a1 n1 c1, .slice (some ⟨b, off, none⟩) n2 c2, .slice a3 n3 c3], .int .i64 p, .int .i64 2] w fun e w' => e = .returned (.tuple #[.int .i64 (low ((x2.drop k).take 2)), .int .i64 0]) ∧ Below w.heap.size w w' := by
  have hB0 : Below w.heap.size w (w.alloc (.cells #[.slice a1 n1 c1, .slice (some ⟨b, off, none⟩) n2 c2, .slice a3 n3 c3] 24)) := (Below.refl _ _).alloc (Nat.le_refl _) _
  obtain ⟨hn1, hn2, hn3⟩ := mok1 h
  have hp : (p == 131072) = false := by simp; omega
  have hi : ins p 2 0 n1 = false := by unfold ins; simp; omega
  have hj : ins p 2 65536 n2 = true := by unfold ins; simp; omega
  have hcap := h2.2.2.2.2
  have hp0 : 65536 ≤ p := by omega
  have hp1 : p ≤ 131072 := by omega
  have hm' : (p.tmod 2 != 0) = false := by rw [Int.tmod_eq_emod_of_nonneg (by omega)]; exact hm
  go_enter Try.func15, Try.ntmps15
  go_wp2_with fail
  refine (acc_ok2 a1 (some ⟨b, off, none⟩) a3 n1 c1 n2 c2 n3 c3 _ _ h hm').mono ?_
  rintro e w1 ⟨rfl, hb1⟩
  have k1 := (Blk.new w #[.slice a1 n1 c1, .slice (some ⟨b, off, none⟩) n2 c2, .slice a3 n3 c3] 24).below hb1
  have hB1 := hB0.trans (hb1.mono (by simp))
  obtain ⟨q1, q2, q3, q4⟩ := k1.three
  clear hb1 k1
  go_wp2_with fail
  refine (holds_any a1 n1 c1 _ 2 0 _ (by omega) (by omega) (by omega) (by omega) (by omega) (by omega)).mono ?_
  rw [hi]
  rintro e w2 ⟨rfl, rfl⟩
  go_wp2_with fail
  refine (holds_any (some ⟨b, off, none⟩) n2 c2 _ 2 65536 _ (by omega) (by omega) (by omega) (by omega) (by omega) (by omega)).mono ?_
  rw [hj]
  rintro e w2 ⟨rfl, rfl⟩
  go_wp2_with fail
  refine (getBytes_2 b (off + k) (n2 - k) (c2 - k) _ _ ((h2.below hB1).drop k (by omega)) (by omega)).mono ?_
  rintro e w3 ⟨rfl, hb3⟩
  go_wp2
  go_ret2
  exact ⟨rfl, hB1.trans (hb3.mono hB1.size)⟩

set_option maxHeartbeats 1000000 in
theorem iRead_port1 (a1 a2 a3 : Option Addr) (n1 c1 n2 c2 n3 c3 : Nat) (w : World) (h : mok n1 n2 n3 = true)  :
    Calls Try.prog 15 #[.agg #[.slice a1 n1 c1, .slice a2 n2 c2, .slice a3 n3 c3], .int .i64 131072, .int .i64 1] w fun e w' => e = .returned (.tuple #[.int .i64 0, .int .i64 4]) ∧ Below w.heap.size w w' := by
  have hB0 : Below w.heap.size w (w.alloc (.cells #[.slice a1 n1 c1, .slice a2 n2 c2, .slice a3 n3 c3] 24)) := (Below.refl _ _).alloc (Nat.le_refl _) _
  obtain ⟨hn1, hn2, hn3⟩ := mok1 h
  go_enter Try.func15, Try.ntmps15
  go_wp2_with fail
  refine (acc_ok1 a1 a2 a3 n1 c1 n2 c2 n3 c3 _ _ h (by decide)).mono ?_
  rintro e w1 ⟨rfl, hb1⟩
  have k1 := (Blk.new w #[.slice a1 n1 c1, .slice a2 n2 c2, .slice a3 n3 c3] 24).below hb1
  have hB1 := hB0.trans (hb1.mono (by simp))
  obtain ⟨q1, q2, q3, q4⟩ := k1.three
  clear hb1 k1
  go_wp2
  go_ret2
  exact ⟨rfl, hB1⟩

set_option maxHeartbeats 1000000 in
theorem iRead_none1 (a1 a2 a3 : Option Addr) (p : Int) (n1 c1 n2 c2 n3 c3 : Nat) (w : World) (h : mok n1 n2 n3 = true) (hmax : p ≤ 9223372036854775807) (hm : (p.tmod 1 != 0) = false) (hp : (p == 131072) = false) (hi : ins p 1 0 n1 = false) (hj : ins p 1 65536 n2 = false) :
    Calls Try.prog 15 #[.agg #[.slice a1 n1 c1, .slice a2 n2 c2, .slice a3 n3 c3], .int .i64 p, .int .i64 1] w fun e w' => e = .returned (.tuple #[.int .i64 0, .int .i64 2]) ∧ Below w.heap.size w w' := by
  have hB0 : Below w.heap.size w (w.alloc (.cells #[.slice a1 n1 c1, .slice a2 n2 c2, .slice a3 n3 c3] 24)) := (Below.refl _ _).alloc (Nat.le_refl _) _
  obtain ⟨hn1, hn2, hn3⟩ := mok1 h
  go_enter Try.func15, Try.ntmps15
  go_wp2_with fail
  refine (acc_ok1 a1 a2 a3 n1 c1 n2 c2 n3 c3 _ _ h hm).mono ?_
  rintro e w1 ⟨rfl, hb1⟩
  have k1 := (Blk.new w #[.slice a1 n1 c1, .slice a2 n2 c2, .slice a3 n3 c3] 24).below hb1
  have hB1 := hB0.trans (hb1.mono (by simp))
  obtain ⟨q1, q2, q3, q4⟩ := k1.three
  clear hb1 k1
  go_wp2_with fail
  refine (holds_any a1 n1 c1 _ 1 0 _ (by omega) (by omega) (by omega) (by omega) (by omega) (by omega)).mono ?_
  rw [hi]
  rintro e w2 ⟨rfl, rfl⟩
  go_wp2_with fail
  refine (holds_any a2 n2 c2 _ 1 65536 _ (by omega) (by omega) (by omega) (by omega) (by omega) (by omega)).mono ?_
  rw [hj]
  rintro e w2 ⟨rfl, rfl⟩
  go_wp2
  go_ret2
  exact ⟨rfl, hB1⟩

set_option maxHeartbeats 1000000 in
theorem iRead_flash1 (b off : Nat) (a2 a3 : Option Addr) (x1 : List Int) (k : Nat) (n1 c1 n2 c2 n3 c3 : Nat) (w : World) (h : mok n1 n2 n3 = true) (h1 : BS w (some ⟨b, off, none⟩) n1 c1 x1) (hm : ((k : Int) % 1 != 0) = false) (hk : k + 1 ≤ n1) :
    Calls Try.prog 15 #[.agg #[.slice (some ⟨b, off, none⟩) n1 c1, .slice a2 n2 c2, .slice a3 n3 c3], .int .i64 k, .int .i64 1] w fun e w' => e = .returned (.tuple #[.int .i64 (low ((x1.drop k).take 1)), .int .i64 0]) ∧ Below w.heap.size w w' := by
  have hB0 : Below w.heap.size w (w.alloc (.cells #[.slice (some ⟨b, off, none⟩) n1 c1, .slice a2 n2 c2, .slice a3 n3 c3] 24)) := (Below.refl _ _).alloc (Nat.le_refl _) _
  obtain ⟨hn1, hn2, hn3⟩ := mok1 h
  have hp : ((k : Int) == 131072) = false := by simp; omega
  have hi : ins (k : Int) 1 0 n1 = true := by unfold ins; simp; omega
  have hcap := h1.2.2.2.2
  have hm' : ((k : Int).tmod 1 != 0) = false := by rw [Int.tmod_eq_emod_of_nonneg (by omega)]; exact hm
  go_enter Try.func15, Try.ntmps15
  go_wp2_with fail
  refine (acc_ok1 (some ⟨b, off, none⟩) a2 a3 n1 c1 n2 c2 n3 c3 _ _ h hm').mono ?_
  rintro e w1 ⟨rfl, hb1⟩
  have k1 := (Blk.new w #[.slice (some ⟨b, off, none⟩) n1 c1, .slice a2 n2 c2, .slice a3 n3 c3] 24).below hb1
  have hB1 := hB0.trans (hb1.mono (by simp))
  obtain ⟨q1, q2, q3, q4⟩ := k1.three
  clear hb1 k1
  go_wp2_with fail
  refine (holds_any (some ⟨b, off, none⟩) n1 c1 _ 1 0 _ (by omega) (by omega) (by omega) (by omega) (by omega) (by omega)).mono ?_
  rw [hi]
  rintro e w2 ⟨rfl, rfl⟩
  go_wp2_with fail
  refine (getBytes_1 b (off + k) (n1 - k) (c1 - k) _ _ ((h1.below hB1).drop k (by omega)) (by omega)).mono ?_
  rintro e w3 ⟨rfl, hb3⟩
  go_wp2
  go_ret2
  exact ⟨rfl, hB1.trans (hb3.mono hB1.size)⟩

set_option maxHeartbeats 1000000 in
theorem iRead_ram1 (b off : Nat) (a1 a3 : Option Addr) (x2 : List Int) (k : Nat) (p : Int) (n1 c1 n2 c2 n3 c3 : Nat) (w : World) (h : mok n1 n2 n3 = true) (h2 : BS w (some ⟨b, off, none⟩) n2 c2 x2) (hpk : p - 65536 = (k : Int)) (hm : (p % 1 != 0) = false) (hk : k + 1 ≤ n2) :
    Calls Try.prog 15 #[.agg #[.slice a1 n1 c1, .slice (some ⟨b, off, none⟩) n2 c2, .slice a3 n3 c3], .int .i64 p, .int .i64 1] w fun e w' => e = .returned (.tuple #[.int .i64 (low ((x2.drop k).take 1)), .int .i64 0]) ∧ Below w.heap.size w w' := by
  have hB0 : Below w.heap.size w (w.alloc (.cells #[.slice a1 n1 c1, .slice (some ⟨b, off, none⟩) n2 c2, .slice a3 n3 c3] 24)) := (Below.refl _ _).alloc (Nat.le_refl _) _
  obtain ⟨hn1, hn2, hn3⟩ := mok1 h
  have hp : (p == 131072) = false := by simp; omega
  have hi : ins p 1 0 n1 = false := by unfold ins; simp; omega
  have hj : ins p 1 65536 n2 = true := by unfold ins; simp; omega
  have hcap := h2.2.2.2.2
  have hp0 : 65536 ≤ p := by omega
  have hp1 : p ≤ 131072 := by omega
  have hm' : (p.tmod 1 != 0) = false := by rw [Int.tmod_eq_emod_of_nonneg (by omega)]; exact hm
  go_enter Try.func15, Try.ntmps15
  go_wp2_with fail
  refine (acc_ok1 a1 (some ⟨b, off, none⟩) a3 n1 c1 n2 c2 n3 c3 _ _ h hm').mono ?_
  rintro e w1 ⟨rfl, hb1⟩
  have k1 := (Blk.new w #[.slice a1 n1 c1, .slice (some ⟨b, off, none⟩) n2 c2, .slice a3 n3 c3] 24).below hb1
  have hB1 := hB0.trans (hb1.mono (by simp))
  obtain ⟨q1, q2, q3, q4⟩ := k1.three
  clear hb1 k1
  go_wp2_with fail
  refine (holds_any a1 n1 c1 _ 1 0 _ (by omega) (by omega) (by omega) (by omega) (by omega) (by omega)).mono ?_
  rw [hi]
  rintro e w2 ⟨rfl, rfl⟩
  go_wp2_with fail
  refine (holds_any (some ⟨b, off, none⟩) n2 c2 _ 1 65536 _ (by omega) (by omega) (by omega) (by omega) (by omega) (by omega)).mono ?_
  rw [hj]
  rintro e w2 ⟨rfl, rfl⟩
  go_wp2_with fail
  refine (getBytes_1 b (off + k) (n2 - k) (c2 - k) _ _ ((h2.below hB1).drop k (by omega)) (by omega)).mono ?_
  rintro e w3 ⟨rfl, hb3⟩
  go_wp2
  go_ret2
  exact ⟨rfl, hB1.trans (hb3.mono hB1.size)⟩

end Go.Proofs.Ytngdgogjlpjjpac
