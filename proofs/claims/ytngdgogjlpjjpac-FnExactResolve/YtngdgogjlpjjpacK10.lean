import Derived.Test.YtngdgogjlpjjpacK09
namespace Go.Proofs.Ytngdgogjlpjjpac
open Go.RowKit
set_option linter.unusedVariables false

theorem BS.drop {w : World} {b off n cap : Nat} {zs : List Int} (h : BS w (some ⟨b, off, none⟩) n cap zs) (k : Nat) (hk : k ≤ n) : BS w (some ⟨b, off + k, none⟩) (n - k) (cap - k) (zs.drop k) := by
  have hl := h.1
  refine ⟨by simp; omega, by have := h.2.1; omega, fun z hz => h.2.2.1 z (List.mem_of_mem_drop hz), fun hn => ⟨b, off + k, rfl, fun i hi => ?_⟩, by have := h.2.2.2.2; omega⟩
  have := h.at (k + i) (by omega)
  rw [Nat.add_assoc, this]
  simp [List.getD_eq_getElem?_getD]
theorem BS.take {w : World} {b off n cap : Nat} {zs : List Int} (h : BS w (some ⟨b, off, none⟩) n cap zs) (s : Nat) (hs : s ≤ n) : BS w (some ⟨b, off, none⟩) s cap (zs.take s) := by
  have hl := h.1
  refine ⟨by simp; omega, by have := h.2.1; omega, fun z hz => h.2.2.1 z (List.mem_of_mem_take hz), fun hn => ⟨b, off, rfl, fun i hi => ?_⟩, by have := h.2.2.2.2; omega⟩
  have := h.at i (by omega)
  rw [this]
  simp [List.getD_eq_getElem?_getD, hi]

theorem wd4 : wd 4 = true := by decide
theorem wd2 : wd 2 = true := by decide
theorem wd1 : wd 1 = true := by decide
theorem mok1 {n1 n2 n3 : Nat} (h : mok n1 n2 n3 = true) : n1 ≤ 16384 ∧ n2 ≤ 16384 ∧ n3 ≤ 5000 := by simpa [mok] using h

set_option maxHeartbeats 1000000 in
theorem sRead_bad (a1 a2 a3 : Option Addr) (n1 c1 n2 c2 n3 c3 : Nat) (p s : Int) (w : World) (h : mok n1 n2 n3 = false ∨ wd s = false) :
    Calls Try.prog 14 #[.agg #[.slice a1 n1 c1, .slice a2 n2 c2, .slice a3 n3 c3], .int .i64 p, .int .i64 s] w fun e w' => e = .returned (.tuple #[.int .i64 0, .int .i64 2]) ∧ Below w.heap.size w w' := by
  have hB0 : Below w.heap.size w (w.alloc (.cells #[.slice a1 n1 c1, .slice a2 n2 c2, .slice a3 n3 c3] 24)) := (Below.refl _ _).alloc (Nat.le_refl _) _
  by_cases hm : mok n1 n2 n3 = false
  · clear h
    go_enter Try.func14, Try.ntmps14
    go_wp2_with fail
    refine (sMemOk_any a1 a2 a3 n1 c1 n2 c2 n3 c3 _).mono ?_
    rw [hm]
    rintro e w1 ⟨rfl, hb1⟩
    go_wp2
    go_ret2
    exact ⟨rfl, hB0.trans (hb1.mono (by simp))⟩
  · have hs : wd s = false := by rcases h with h | h; exact absurd h hm; exact h
    have hm : mok n1 n2 n3 = true := by simpa using hm
    clear h
    go_enter Try.func14, Try.ntmps14
    go_wp2_with fail
    refine (sMemOk_any a1 a2 a3 n1 c1 n2 c2 n3 c3 _).mono ?_
    rw [hm]
    rintro e w1 ⟨rfl, hb1⟩
    go_wp2_with fail
    refine (l1Size_any s _).mono ?_
    rw [hs]
    rintro e w2 ⟨rfl, rfl⟩
    go_wp2
    go_ret2
    exact ⟨rfl, hB0.trans (hb1.mono (by simp))⟩

set_option maxHeartbeats 1000000 in
theorem sRead_mis4 (a1 a2 a3 : Option Addr) (p : Int) (n1 c1 n2 c2 n3 c3 : Nat) (w : World) (h : mok n1 n2 n3 = true) (hm : (p.tmod 4 != 0) = true) :
    Calls Try.prog 14 #[.agg #[.slice a1 n1 c1, .slice a2 n2 c2, .slice a3 n3 c3], .int .i64 p, .int .i64 4] w fun e w' => e = .returned (.tuple #[.int .i64 0, .int .i64 1]) ∧ Below w.heap.size w w' := by
  have hB0 : Below w.heap.size w (w.alloc (.cells #[.slice a1 n1 c1, .slice a2 n2 c2, .slice a3 n3 c3] 24)) := (Below.refl _ _).alloc (Nat.le_refl _) _
  obtain ⟨hn1, hn2, hn3⟩ := mok1 h
  go_enter Try.func14, Try.ntmps14
  go_wp2_with fail
  refine (sMemOk_any a1 a2 a3 n1 c1 n2 c2 n3 c3 _).mono ?_
  rw [h]
  rintro e w1 ⟨rfl, hb1⟩
  have k1 := (Blk.new w #[.slice a1 n1 c1, .slice a2 n2 c2, .slice a3 n3 c3] 24).below hb1
  have hB1 := hB0.trans (hb1.mono (by simp))
  obtain ⟨q1, q2, q3, q4⟩ := k1.three
  clear hb1 k1
  go_wp2_with fail
  refine (l1Size_any 4 _).mono ?_
  rw [wd4]
  rintro e w2 ⟨rfl, rfl⟩
  go_wp2
  go_ret2
  exact ⟨rfl, hB1⟩

set_option maxHeartbeats 1000000 in
theorem sRead_port4 (a1 a2 a3 : Option Addr) (n1 c1 n2 c2 n3 c3 : Nat) (w : World) (h : mok n1 n2 n3 = true)  :
    Calls Try.prog 14 #[.agg #[.slice a1 n1 c1, .slice a2 n2 c2, .slice a3 n3 c3], .int .i64 131072, .int .i64 4] w fun e w' => e = .returned (.tuple #[.int .i64 0, .int .i64 4]) ∧ Below w.heap.size w w' := by
  have hB0 : Below w.heap.size w (w.alloc (.cells #[.slice a1 n1 c1, .slice a2 n2 c2, .slice a3 n3 c3] 24)) := (Below.refl _ _).alloc (Nat.le_refl _) _
  obtain ⟨hn1, hn2, hn3⟩ := mok1 h
  go_enter Try.func14, Try.ntmps14
  go_wp2_with fail
  refine (sMemOk_any a1 a2 a3 n1 c1 n2 c2 n3 c3 _).mono ?_
  rw [h]
  rintro e w1 ⟨rfl, hb1⟩
  have k1 := (Blk.new w #[.slice a1 n1 c1, .slice a2 n2 c2, .slice a3 n3 c3] 24).below hb1
  have hB1 := hB0.trans (hb1.mono (by simp))
  obtain ⟨q1, q2, q3, q4⟩ := k1.three
  clear hb1 k1
  go_wp2_with fail
  refine (l1Size_any 4 _).mono ?_
  rw [wd4]
  rintro e w2 ⟨rfl, rfl⟩
  go_wp2
  go_ret2
  exact ⟨rfl, hB1⟩

set_option maxHeartbeats 1000000 in
theorem sRead_none4 (a1 a2 a3 : Option Addr) (p : Int) (n1 c1 n2 c2 n3 c3 : Nat) (w : World) (h : mok n1 n2 n3 = true) (hm : (p.tmod 4 != 0) = false) (hp : (p == 131072) = false) (hi : ins p 4 0 n1 = false) (hj : ins p 4 65536 n2 = false) :
    Calls Try.prog 14 #[.agg #[.slice a1 n1 c1, .slice a2 n2 c2, .slice a3 n3 c3], .int .i64 p, .int .i64 4] w fun e w' => e = .returned (.tuple #[.int .i64 0, .int .i64 2]) ∧ Below w.heap.size w w' := by
  have hB0 : Below w.heap.size w (w.alloc (.cells #[.slice a1 n1 c1, .slice a2 n2 c2, .slice a3 n3 c3] 24)) := (Below.refl _ _).alloc (Nat.le_refl _) _
  obtain ⟨hn1, hn2, hn3⟩ := mok1 h
  go_enter Try.func14, Try.ntmps14
  go_wp2_with fail
  refine (sMemOk_any a1 a2 a3 n1 c1 n2 c2 n3 c3 _).mono ?_
  rw [h]
  rintro e w1 ⟨rfl, hb1⟩
  have k1 := (Blk.new w #[.slice a1 n1 c1, .slice a2 n2 c2, .slice a3 n3 c3] 24).below hb1
  have hB1 := hB0.trans (hb1.mono (by simp))
  obtain ⟨q1, q2, q3, q4⟩ := k1.three
  clear hb1 k1
  go_wp2_with fail
  refine (l1Size_any 4 _).mono ?_
  rw [wd4]
  rintro e w2 ⟨rfl, rfl⟩
  go_wp2_with fail
  refine (l1Inside_any _ 4 0 n1 _ (by omega) (by omega) (by omega) (by omega) (by omega)).mono ?_
  rw [hi]
  rintro e w2 ⟨rfl, rfl⟩
  go_wp2_with fail
  refine (l1Inside_any _ 4 65536 n2 _ (by omega) (by omega) (by omega) (by omega) (by omega)).mono ?_
  rw [hj]
  rintro e w2 ⟨rfl, rfl⟩
  go_wp2
  go_ret2
  exact ⟨rfl, hB1⟩

set_option maxHeartbeats 1000000 in
theorem sRead_flash4 (b off : Nat) (a2 a3 : Option Addr) (x1 : List Int) (k : Nat) (n1 c1 n2 c2 n3 c3 : Nat) (w : World) (h : mok n1 n2 n3 = true) (h1 : BS w (some ⟨b, off, none⟩) n1 c1 x1) (hm : ((k : Int) % 4 != 0) = false) (hk : k + 4 ≤ n1) :
    Calls Try.prog 14 #[.agg #[.slice (some ⟨b, off, none⟩) n1 c1, .slice a2 n2 c2, .slice a3 n3 c3], .int .i64 k, .int .i64 4] w fun e w' => e = .returned (.tuple #[.int .i64 (low ((x1.drop k).take 4)), .int .i64 0]) ∧ Below w.heap.size w w' := by
  have hB0 : Below w.heap.size w (w.alloc (.cells #[.slice (some ⟨b, off, none⟩) n1 c1, .slice a2 n2 c2, .slice a3 n3 c3] 24)) := (Below.refl _ _).alloc (Nat.le_refl _) _
  obtain ⟨hn1, hn2, hn3⟩ := mok1 h
  have hp : ((k : Int) == 131072) = false := by simp; omega
  have hi : ins (k : Int) 4 0 n1 = true := by unfold ins; simp; omega
  have hcap := h1.2.2.2.2
  go_enter Try.func14, Try.ntmps14
  go_wp2_with fail
  refine (sMemOk_any (some ⟨b, off, none⟩) a2 a3 n1 c1 n2 c2 n3 c3 _).mono ?_
  rw [h]
  rintro e w1 ⟨rfl, hb1⟩
  have k1 := (Blk.new w #[.slice (some ⟨b, off, none⟩) n1 c1, .slice a2 n2 c2, .slice a3 n3 c3] 24).below hb1
  have hB1 := hB0.trans (hb1.mono (by simp))
  obtain ⟨q1, q2, q3, q4⟩ := k1.three
  clear hb1 k1
  go_wp2_with fail
  refine (l1Size_any 4 _).mono ?_
  rw [wd4]
  rintro e w2 ⟨rfl, rfl⟩
  go_wp2_with fail
  refine (l1Inside_any _ 4 0 n1 _ (by omega) (by omega) (by omega) (by omega) (by omega)).mono ?_
  rw [hi]
  rintro e w2 ⟨rfl, rfl⟩
  go_wp2_with fail
  refine (l1Low_any b (off + k) 4 (c1 - k) _ _ (((h1.below hB1).drop k (by omega)).take 4 (by omega)) (by omega)).mono ?_
  rintro e w3 ⟨rfl, rfl⟩
  go_wp2
  go_ret2
  exact ⟨rfl, hB1⟩

set_option maxHeartbeats 1000000 in
theorem sRead_ram4 (b off : Nat) (a1 a3 : Option Addr) (x2 : List Int) (k : Nat) (p : Int) (n1 c1 n2 c2 n3 c3 : Nat) (w : World) (h : mok n1 n2 n3 = true) (h2 : BS w (some ⟨b, off, none⟩) n2 c2 x2) (hpk : p - 65536 = (k : Int)) (hm : (p % 4 != 0) = false) (hk : k + 4 ≤ n2) :
    Calls Try.prog 14 #[.agg #[.slice a1 n1 c1, .slice (some ⟨b, off, none⟩) n2 c2, .slice a3 n3 c3], .int .i64 p, .int .i64 4] w fun e w' => e = .returned (.tuple #[.int .i64 (low ((x2.drop k).take 4)), .int .i64 0]) ∧ Below w.heap.size w w' := by
  have hB0 : Below w.heap.size w (w.alloc (.cells #[.slice a1 n1 c1, .slice (some ⟨b, off, none⟩) n2 c2, .slice a3 n3 c3] 24)) := (Below.refl _ _).alloc (Nat.le_refl _) _
  obtain ⟨hn1, hn2, hn3⟩ := mok1 h
  have hp : (p == 131072) = false := by simp; omega
  have hi : ins p 4 0 n1 = false := by unfold ins; simp; omega
  have hj : ins p 4 65536 n2 = true := by unfold ins; simp; omega
  have hcap := h2.2.2.2.2
  have hp0 : 65536 ≤ p := by omega
  have hp1 : p ≤ 131072 := by omega
  go_enter Try.func14, Try.ntmps14
  go_wp2_with fail
  refine (sMemOk_any a1 (some ⟨b, off, none⟩) a3 n1 c1 n2 c2 n3 c3 _).mono ?_
  rw [h]
  rintro e w1 ⟨rfl, hb1⟩
  have k1 := (Blk.new w #[.slice a1 n1 c1, .slice (some ⟨b, off, none⟩) n2 c2, .slice a3 n3 c3] 24).below hb1
  have hB1 := hB0.trans (hb1.mono (by simp))
  obtain ⟨q1, q2, q3, q4⟩ := k1.three
  clear hb1 k1
  go_wp2_with fail
  refine (l1Size_any 4 _).mono ?_
  rw [wd4]
  rintro e w2 ⟨rfl, rfl⟩
  go_wp2_with fail
  refine (l1Inside_any _ 4 0 n1 _ (by omega) (by omega) (by omega) (by omega) (by omega)).mono ?_
  rw [hi]
  rintro e w2 ⟨rfl, rfl⟩
  go_wp2_with fail
  refine (l1Inside_any _ 4 65536 n2 _ (by omega) (by omega) (by omega) (by omega) (by omega)).mono ?_
  rw [hj]
  rintro e w2 ⟨rfl, rfl⟩
  go_wp2_with fail
  refine (l1Low_any b (off + k) 4 (c2 - k) _ _ (((h2.below hB1).drop k (by omega)).take 4 (by omega)) (by omega)).mono ?_
  rintro e w3 ⟨rfl, rfl⟩
  go_wp2
  go_ret2
  exact ⟨rfl, hB1⟩

set_option maxHeartbeats 1000000 in
theorem sRead_mis2 (a1 a2 a3 : Option Addr) (p : Int) (n1 c1 n2 c2 n3 c3 : Nat) (w : World) (h : mok n1 n2 n3 = true) (hm : (p.tmod 2 != 0) = true) :
    Calls Try.prog 14 #[.agg #[.slice a1 n1 c1, .slice a2 n2 c2, .slice a3 n3 c3], .int .i64 p, .int .i64 2] w fun e w' => e = .returned (.tuple #[.int .i64 0, .int .i64 1]) ∧ Below w.heap.size w w' := by
  have hB0 : Below w.heap.size w (w.alloc (.cells #[.slice a1 n1 c1, .slice a2 n2 c2, .slice a3 n3 c3] 24)) := (Below.refl _ _).alloc (Nat.le_refl _) _
  obtain ⟨hn1, hn2, hn3⟩ := mok1 h
  go_enter Try.func14, Try.ntmps14
  go_wp2_with fail
  refine (sMemOk_any a1 a2 a3 n1 c1 n2 c2 n3 c3 _).mono ?_
  rw [h]
  rintro e w1 ⟨rfl, hb1⟩
  have k1 := (Blk.new w #[.slice a1 n1 c1, .slice a2 n2 c2, .slice a3 n3 c3] 24).below hb1
  have hB1 := hB0.trans (hb1.mono (by simp))
  obtain ⟨q1, q2, q3, q4⟩ := k1.three
  clear hb1 k1
  go_wp2_with fail
  refine (l1Size_any 2 _).mono ?_
  rw [wd2]
  rintro e w2 ⟨rfl, rfl⟩
  go_wp2
  go_ret2
  exact ⟨rfl, hB1⟩

set_option maxHeartbeats 1000000 in
theorem sRead_port2 (a1 a2 a3 : Option Addr) (n1 c1 n2 c2 n3 c3 : Nat) (w : World) (h : mok n1 n2 n3 = true)  :
    Calls Try.prog 14 #[.agg #[.slice a1 n1 c1, .slice a2 n2 c2, .slice a3 n3 c3], .int .i64 131072, .int .i64 2] w fun e w' => e = .returned (.tuple #[.int .i64 0, .int .i64 4]) ∧ Below w.heap.size w w' := by
  have hB0 : Below w.heap.size w (w.alloc (.cells #[.slice a1 n1 c1, .slice a2 n2 c2, .slice a3 n3 c3] 24)) := (Below.refl _ _).alloc (Nat.le_refl _) _
  obtain ⟨hn1, hn2, hn3⟩ := mok1 h
  go_enter Try.func14, Try.ntmps14
  go_wp2_with fail
  refine (sMemOk_any a1 a2 a3 n1 c1 n2 c2 n3 c3 _).mono ?_
  rw [h]
  rintro e w1 ⟨rfl, hb1⟩
  have k1 := (Blk.new w #[.slice a1 n1 c1, .slice a2 n2 c2, .slice a3 n3 c3] 24).below hb1
  have hB1 := hB0.trans (hb1.mono (by simp))
  obtain ⟨q1, q2, q3, q4⟩ := k1.three
  clear hb1 k1
  go_wp2_with fail
  refine (l1Size_any 2 _).mono ?_
  rw [wd2]
  rintro e w2 ⟨rfl, rfl⟩
  go_wp2
  go_ret2
  exact ⟨rfl, hB1⟩

set_option maxHeartbeats 1000000 in
theorem sRead_none2 (a1 a2 a3 : Option Addr) (p : Int) (n1 c1 n2 c2 n3 c3 : Nat) (w : World) (h : mok n1 n2 n3 = true) (hm : (p.tmod 2 != 0) = false) (hp : (p == 131072) = false) (hi : ins p 2 0 n1 = false) (hj : ins p 2 65536 n2 = false) :
    Calls Try.prog 14 #[.agg #[.slice a1 n1 c1, .slice a2 n2 c2, .slice a3 n3 c3], .int .i64 p, .int .i64 2] w fun e w' => e = .returned (.tuple #[.int .i64 0, .int .i64 2]) ∧ Below w.heap.size w w' := by
  have hB0 : Below w.heap.size w (w.alloc (.cells #[.slice a1 n1 c1, .slice a2 n2 c2, .slice a3 n3 c3] 24)) := (Below.refl _ _).alloc (Nat.le_refl _) _
  obtain ⟨hn1, hn2, hn3⟩ := mok1 h
  go_enter Try.func14, Try.ntmps14
  go_wp2_with fail
  refine (sMemOk_any a1 a2 a3 n1 c1 n2 c2 n3 c3 _).mono ?_
  rw [h]
  rintro e w1 ⟨rfl, hb1⟩
  have k1 := (Blk.new w #[.slice a1 n1 c1, .slice a2 n2 c2, .slice a3 n3 c3] 24).below hb1
  have hB1 := hB0.trans (hb1.mono (by simp))
  obtain ⟨q1, q2, q3, q4⟩ := k1.three
  clear hb1 k1
  go_wp2_with fail
  refine (l1Size_any 2 _).mono ?_
  rw [wd2]
  rintro e w2 ⟨rfl, rfl⟩
  go_wp2_with fail
  refine (l1Inside_any _ 2 0 n1 _ (by omega) (by omega) (by omega) (by omega) (by omega)).mono ?_
  rw [hi]
  rintro e w2 ⟨rfl, rfl⟩
  go_wp2_with fail
  refine (l1Inside_any _ 2 65536 n2 _ (by omega) (by omega) (by omega) (by omega) (by omega)).mono ?_
  rw [hj]
  rintro e w2 ⟨rfl, rfl⟩
  go_wp2
  go_ret2
  exact ⟨rfl, hB1⟩

set_option maxHeartbeats 1000000 in
theorem sRead_flash2 (b off : Nat) (a2 a3 : Option Addr) (x1 : List Int) (k : Nat) (n1 c1 n2 c2 n3 c3 : Nat) (w : World) (h : mok n1 n2 n3 = true) (h1 : BS w (some ⟨b, off, none⟩) n1 c1 x1) (hm : ((k : Int) % 2 != 0) = false) (hk : k + 2 ≤ n1) :
    Calls Try.prog 14 #[.agg #[.slice (some ⟨b, off, none⟩) n1 c1, .slice a2 n2 c2, .slice a3 n3 c3], .int .i64 k, .int .i64 2] w fun e w' => e = .returned (.tuple #[.int .i64 (low ((x1.drop k).take 2)), .int .i64 0]) ∧ Below w.heap.size w w' := by
  have hB0 : Below w.heap.size w (w.alloc (.cells #[.slice (some ⟨b, off, none⟩) n1 c1, .slice a2 n2 c2, .slice a3 n3 c3] 24)) := (Below.refl _ _).alloc (Nat.le_refl _) _
  obtain ⟨hn1, hn2, hn3⟩ := mok1 h
  have hp : ((k : Int) == 131072) = false := by simp; omega
  have hi : ins (k : Int) 2 0 n1 = true := by unfold ins; simp; omega
  have hcap := h1.2.2.2.2
  go_enter Try.func14, Try.ntmps14
  go_wp2_with fail
  refine (sMemOk_any (some ⟨b, off, none⟩) a2 a3 n1 c1 n2 c2 n3 c3 _).mono ?_
  rw [h]
  rintro e w1 ⟨rfl, hb1⟩
  have k1 := (Blk.new w #[.slice (some ⟨b, off, none⟩) n1 c1, .slice a2 n2 c2, .slice a3 n3 c3] 24).below hb1
  have hB1 := hB0.trans (hb1.mono (by simp))
  obtain ⟨q1, q2, q3, q4⟩ := k1.three
  clear hb1 k1
  go_wp2_with fail
  refine (l1Size_any 2 _).mono ?_
  rw [wd2]
  rintro e w2 ⟨rfl, rfl⟩
  go_wp2_with fail
  refine (l1Inside_any _ 2 0 n1 _ (by omega) (by omega) (by omega) (by omega) (by omega)).mono ?_
  rw [hi]
  rintro e w2 ⟨rfl, rfl⟩
  go_wp2_with fail
  refine (l1Low_any b (off + k) 2 (c1 - k) _ _ (((h1.below hB1).drop k (by omega)).take 2 (by omega)) (by omega)).mono ?_
  rintro e w3 ⟨rfl, rfl⟩
  go_wp2
  go_ret2
  exact ⟨rfl, hB1⟩

set_option maxHeartbeats 1000000 in
theorem sRead_ram2 (b off : Nat) (a1 a3 : Option Addr) (x2 : List Int) (k : Nat) (p : Int) (n1 c1 n2 c2 n3 c3 : Nat) (w : World) (h : mok n1 n2 n3 = true) (h2 : BS w (some ⟨b, off, none⟩) n2 c2 x2) (hpk : p - 65536 = (k : Int)) (hm : (p % 2 != 0) = false) (hk : k + 2 ≤ n2) :
    Calls Try.prog 14 #[.agg #[.slice a1 n1 c1, .slice (some ⟨b, off, none⟩) n2 c2, .slice a3 n3 c3], .int .i64 p, .int .i64 2] w fun e w' => e = .returned (.tuple #[.int .i64 (low ((x2.drop k).take 2)), .int .i64 0]) ∧ Below w.heap.size w w' := by
  have hB0 : Below w.heap.size w (w.alloc (.cells #[.slice a1 n1 c1, .slice (some ⟨b, off, none⟩) n2 c2, .slice a3 n3 c3] 24)) := (Below.refl _ _).alloc (Nat.le_refl _) _
  obtain ⟨hn1, hn2, hn3⟩ := mok1 h
  have hp : (p == 131072) = false := by simp; omega
  have hi : ins p 2 0 n1 = false := by unfold ins; simp; omega
  have hj : ins p 2 65536 n2 = true := by unfold ins; simp; omega
  have hcap := h2.2.2.2.2
  have hp0 : 65536 ≤ p := by omega
  have hp1 : p ≤ 131072 := by omega
  go_enter Try.func14, Try.ntmps14
  go_wp2_with fail
  refine (sMemOk_any a1 (some ⟨b, off, none⟩) a3 n1 c1 n2 c2 n3 c3 _).mono ?_
  rw [h]
  rintro e w1 ⟨rfl, hb1⟩
  have k1 := (Blk.new w #[.slice a1 n1 c1, .slice (some ⟨b, off, none⟩) n2 c2, .slice a3 n3 c3] 24).below hb1
  have hB1 := hB0.trans (hb1.mono (by simp))
  obtain ⟨q1, q2, q3, q4⟩ := k1.three
  clear hb1 k1
  go_wp2_with fail
  refine (l1Size_any 2 _).mono ?_
  rw [wd2]
  rintro e w2 ⟨rfl, rfl⟩
  go_wp2_with fail
  refine (l1Inside_any _ 2 0 n1 _ (by omega) (by omega) (by omega) (by omega) (by omega)).mono ?_
  rw [hi]
  rintro e w2 ⟨rfl, rfl⟩
  go_wp2_with fail
  refine (l1Inside_any _ 2 65536 n2 _ (by omega) (by omega) (by omega) (by omega) (by omega)).mono ?_
  rw [hj]
  rintro e w2 ⟨rfl, rfl⟩
  go_wp2_with fail
  refine (l1Low_any b (off + k) 2 (c2 - k) _ _ (((h2.below hB1).drop k (by omega)).take 2 (by omega)) (by omega)).mono ?_
  rintro e w3 ⟨rfl, rfl⟩
  go_wp2
  go_ret2
  exact ⟨rfl, hB1⟩

set_option maxHeartbeats 1000000 in
theorem sRead_port1 (a1 a2 a3 : Option Addr) (n1 c1 n2 c2 n3 c3 : Nat) (w : World) (h : mok n1 n2 n3 = true)  :
    Calls Try.prog 14 #[.agg #[.slice a1 n1 c1, .slice a2 n2 c2, .slice a3 n3 c3], .int .i64 131072, .int .i64 1] w fun e w' => e = .returned (.tuple #[.int .i64 0, .int .i64 4]) ∧ Below w.heap.size w w' := by
  have hB0 : Below w.heap.size w (w.alloc (.cells #[.slice a1 n1 c1, .slice a2 n2 c2, .slice a3 n3 c3] 24)) := (Below.refl _ _).alloc (Nat.le_refl _) _
  obtain ⟨hn1, hn2, hn3⟩ := mok1 h
  go_enter Try.func14, Try.ntmps14
  go_wp2_with fail
  refine (sMemOk_any a1 a2 a3 n1 c1 n2 c2 n3 c3 _).mono ?_
  rw [h]
  rintro e w1 ⟨rfl, hb1⟩
  have k1 := (Blk.new w #[.slice a1 n1 c1, .slice a2 n2 c2, .slice a3 n3 c3] 24).below hb1
  have hB1 := hB0.trans (hb1.mono (by simp))
  obtain ⟨q1, q2, q3, q4⟩ := k1.three
  clear hb1 k1
  go_wp2_with fail
  refine (l1Size_any 1 _).mono ?_
  rw [wd1]
  rintro e w2 ⟨rfl, rfl⟩
  go_wp2
  go_ret2
  exact ⟨rfl, hB1⟩

set_option maxHeartbeats 1000000 in
theorem sRead_none1 (a1 a2 a3 : Option Addr) (p : Int) (n1 c1 n2 c2 n3 c3 : Nat) (w : World) (h : mok n1 n2 n3 = true) (hm : (p.tmod 1 != 0) = false) (hp : (p == 131072) = false) (hi : ins p 1 0 n1 = false) (hj : ins p 1 65536 n2 = false) :
    Calls Try.prog 14 #[.agg #[.slice a1 n1 c1, .slice a2 n2 c2, .slice a3 n3 c3], .int .i64 p, .int .i64 1] w fun e w' => e = .returned (.tuple #[.int .i64 0, .int .i64 2]) ∧ Below w.heap.size w w' := by
  have hB0 : Below w.heap.size w (w.alloc (.cells #[.slice a1 n1 c1, .slice a2 n2 c2, .slice a3 n3 c3] 24)) := (Below.refl _ _).alloc (Nat.le_refl _) _
  obtain ⟨hn1, hn2, hn3⟩ := mok1 h
  go_enter Try.func14, Try.ntmps14
  go_wp2_with fail
  refine (sMemOk_any a1 a2 a3 n1 c1 n2 c2 n3 c3 _).mono ?_
  rw [h]
  rintro e w1 ⟨rfl, hb1⟩
  have k1 := (Blk.new w #[.slice a1 n1 c1, .slice a2 n2 c2, .slice a3 n3 c3] 24).below hb1
  have hB1 := hB0.trans (hb1.mono (by simp))
  obtain ⟨q1, q2, q3, q4⟩ := k1.three
  clear hb1 k1
  go_wp2_with fail
  refine (l1Size_any 1 _).mono ?_
  rw [wd1]
  rintro e w2 ⟨rfl, rfl⟩
  go_wp2_with fail
  refine (l1Inside_any _ 1 0 n1 _ (by omega) (by omega) (by omega) (by omega) (by omega)).mono ?_
  rw [hi]
  rintro e w2 ⟨rfl, rfl⟩
  go_wp2_with fail
  refine (l1Inside_any _ 1 65536 n2 _ (by omega) (by omega) (by omega) (by omega) (by omega)).mono ?_
  rw [hj]
  rintro e w2 ⟨rfl, rfl⟩
  go_wp2
  go_ret2
  exact ⟨rfl, hB1⟩

set_option maxHeartbeats 1000000 in
theorem sRead_flash1 (b off : Nat) (a2 a3 : Option Addr) (x1 : List Int) (k : Nat) (n1 c1 n2 c2 n3 c3 : Nat) (w : World) (h : mok n1 n2 n3 = true) (h1 : BS w (some ⟨b, off, none⟩) n1 c1 x1) (hm : ((k : Int) % 1 != 0) = false) (hk : k + 1 ≤ n1) :
    Calls Try.prog 14 #[.agg #[.slice (some ⟨b, off, none⟩) n1 c1, .slice a2 n2 c2, .slice a3 n3 c3], .int .i64 k, .int .i64 1] w fun e w' => e = .returned (.tuple #[.int .i64 (low ((x1.drop k).take 1)), .int .i64 0]) ∧ Below w.heap.size w w' := by
  have hB0 : Below w.heap.size w (w.alloc (.cells #[.slice (some ⟨b, off, none⟩) n1 c1, .slice a2 n2 c2, .slice a3 n3 c3] 24)) := (Below.refl _ _).alloc (Nat.le_refl _) _
  obtain ⟨hn1, hn2, hn3⟩ := mok1 h
  have hp : ((k : Int) == 131072) = false := by simp; omega
  have hi : ins (k : Int) 1 0 n1 = true := by unfold ins; simp; omega
  have hcap := h1.2.2.2.2
  go_enter Try.func14, Try.ntmps14
  go_wp2_with fail
  refine (sMemOk_any (some ⟨b, off, none⟩) a2 a3 n1 c1 n2 c2 n3 c3 _).mono ?_
  rw [h]
  rintro e w1 ⟨rfl, hb1⟩
  have k1 := (Blk.new w #[.slice (some ⟨b, off, none⟩) n1 c1, .slice a2 n2 c2, .slice a3 n3 c3] 24).below hb1
  have hB1 := hB0.trans (hb1.mono (by simp))
  obtain ⟨q1, q2, q3, q4⟩ := k1.three
  clear hb1 k1
  go_wp2_with fail
  refine (l1Size_any 1 _).mono ?_
  rw [wd1]
  rintro e w2 ⟨rfl, rfl⟩
  go_wp2_with fail
  refine (l1Inside_any _ 1 0 n1 _ (by omega) (by omega) (by omega) (by omega) (by omega)).mono ?_
  rw [hi]
  rintro e w2 ⟨rfl, rfl⟩
  go_wp2_with fail
  refine (l1Low_any b (off + k) 1 (c1 - k) _ _ (((h1.below hB1).drop k (by omega)).take 1 (by omega)) (by omega)).mono ?_
  rintro e w3 ⟨rfl, rfl⟩
  go_wp2
  go_ret2
  exact ⟨rfl, hB1⟩

set_option maxHeartbeats 1000000 in
theorem sRead_ram1 (b off : Nat) (a1 a3 : Option Addr) (x2 : List Int) (k : Nat) (p : Int) (n1 c1 n2 c2 n3 c3 : Nat) (w : World) (h : mok n1 n2 n3 = true) (h2 : BS w (some ⟨b, off, none⟩) n2 c2 x2) (hpk : p - 65536 = (k : Int)) (hm : (p % 1 != 0) = false) (hk : k + 1 ≤ n2) :
    Calls Try.prog 14 #[.agg #[.slice a1 n1 c1, .slice (some ⟨b, off, none⟩) n2 c2, .slice a3 n3 c3], .int .i64 p, .int .i64 1] w fun e w' => e = .returned (.tuple #[.int .i64 (low ((x2.drop k).take 1)), .int .i64 0]) ∧ Below w.heap.size w w' := by
  have hB0 : Below w.heap.size w (w.alloc (.cells #[.slice a1 n1 c1, .slice (some ⟨b, off, none⟩) n2 c2, .slice a3 n3 c3] 24)) := (Below.refl _ _).alloc (Nat.le_refl _) _
  obtain ⟨hn1, hn2, hn3⟩ := mok1 h
  have hp : (p == 131072) = false := by simp; omega
  have hi : ins p 1 0 n1 = false := by unfold ins; simp; omega
  have hj : ins p 1 65536 n2 = true := by unfold ins; simp; omega
  have hcap := h2.2.2.2.2
  have hp0 : 65536 ≤ p := by omega
  have hp1 : p ≤ 131072 := by omega
  go_enter Try.func14, Try.ntmps14
  go_wp2_with fail
  refine (sMemOk_any a1 (some ⟨b, off, none⟩) a3 n1 c1 n2 c2 n3 c3 _).mono ?_
  rw [h]
  rintro e w1 ⟨rfl, hb1⟩
  have k1 := (Blk.new w #[.slice a1 n1 c1, .slice (some ⟨b, off, none⟩) n2 c2, .slice a3 n3 c3] 24).below hb1
  have hB1 := hB0.trans (hb1.mono (by simp))
  obtain ⟨q1, q2, q3, q4⟩ := k1.three
  clear hb1 k1
  go_wp2_with fail
  refine (l1Size_any 1 _).mono ?_
  rw [wd1]
  rintro e w2 ⟨rfl, rfl⟩
  go_wp2_with fail
  refine (l1Inside_any _ 1 0 n1 _ (by omega) (by omega) (by omega) (by omega) (by omega)).mono ?_
  rw [hi]
  rintro e w2 ⟨rfl, rfl⟩
  go_wp2_with fail
  refine (l1Inside_any _ 1 65536 n2 _ (by omega) (by omega) (by omega) (by omega) (by omega)).mono ?_
  rw [hj]
  rintro e w2 ⟨rfl, rfl⟩
  go_wp2_with fail
  refine (l1Low_any b (off + k) 1 (c2 - k) _ _ (((h2.below hB1).drop k (by omega)).take 1 (by omega)) (by omega)).mono ?_
  rintro e w3 ⟨rfl, rfl⟩
  go_wp2
  go_ret2
  exact ⟨rfl, hB1⟩

end Go.Proofs.Ytngdgogjlpjjpac
