import Derived.Test.YtngdgogjlpjjpacMm5
import Derived.Test.YtngdgogjlpjjpacWi3
import Derived.Test.YtngdgogjlpjjpacWr9
import Derived.Test.YtngdgogjlpjjpacPw
namespace Go.Proofs.Ytngdgogjlpjjpac
open Go.RowKit
set_option linter.unusedVariables false
set_option linter.unusedSimpArgs false
set_option maxRecDepth 100000

theorem take_eq_succ7 (xs ys : List Int) (k : Nat) (h : xs.take k = ys.take k) (hx : k < xs.length) (hy : k < ys.length) (he : xs.getD k 0 = ys.getD k 0) : xs.take (k + 1) = ys.take (k + 1) := by
  rw [List.take_succ_eq_append_getElem hx, List.take_succ_eq_append_getElem hy, h]
  simp [List.getD_eq_getElem?_getD, hx, hy] at he
  rw [he]

set_option maxHeartbeats 1000000 in
theorem l7Bytes_any (a a' : Option Addr) (n cap n' cap' : Nat) (xs ys : List Int) (w : World) (h : BS w a n cap xs) (h' : BS w a' n' cap' ys) :
    Calls Try.prog 49 #[.slice a n cap, .slice a' n' cap'] w fun e w' => e = .returned (.bool (decide (xs = ys))) ∧ Below w.heap.size w w' := by
  obtain ⟨hl, hmx, hr, hc, _⟩ := h
  obtain ⟨hl', hmx', hr', hc', _⟩ := h'
  unfold maxLen at hmx hmx'
  by_cases hn : n = n'
  · subst hn
    have hne : ((n : Int) != (n : Int)) = false := by simp
    by_cases hn0 : n = 0
    · subst hn0
      obtain rfl : xs = [] := List.eq_nil_of_length_eq_zero hl
      obtain rfl : ys = [] := List.eq_nil_of_length_eq_zero hl'
      clear hc hc'
      go_enter Try.func49, Try.ntmps49
      go_wp2
      go_loop [5] (fun i => i = .int .i64 0) (fun _ => 0)
      case atStart => rfl
      case round =>
        obtain rfl := hrel
        go_wp2
        go_ret
        exact ⟨rfl, Below.refl _ _⟩
    · obtain ⟨b, off, rfl, hd⟩ := hc hn0
      obtain ⟨b', off', rfl, hd'⟩ := hc' hn0
      clear hc hc'
      go_enter Try.func49, Try.ntmps49
      go_wp2
      go_loopw [5] (fun i wr => ∃ k : Nat, k ≤ n ∧ i = .int .i64 k ∧ xs.take k = ys.take k ∧ Below w.heap.size w wr) (fun i _ => n - (intOf i).toNat)
      case atStart => exact ⟨0, Nat.zero_le _, rfl, by simp, Below.refl _ _⟩
      case round =>
        obtain ⟨k, hk, rfl, hT, hB⟩ := hrel
        by_cases hlt : k < n
        · have hlt' : (k : Int) < (n : Int) := by omega
          have hck : wr.cell? ⟨b, off + k, none⟩ = some (.int .u8 (xs.getD k 0)) := (hB.cell (World.block_lt_of_cell? w _ (hd k hlt))).trans (hd k hlt)
          have hck' : wr.cell? ⟨b', off' + k, none⟩ = some (.int .u8 (ys.getD k 0)) := (hB.cell (World.block_lt_of_cell? w _ (hd' k hlt))).trans (hd' k hlt)
          by_cases he : xs.getD k 0 = ys.getD k 0
          · have hS := take_eq_succ7 xs ys k hT (by omega) (by omega) he
            have HS : Hid (xs.take (k + 1) = ys.take (k + 1)) := hS
            rw [he] at hck
            clear hS hT hd hd' he
            generalize ys.getD k 0 = z at *
            have hz : (z != z) = false := by simp
            go_wp2
            go_quiet (fail)
            go_wp2
            go_roundw
            case rel => exact ⟨k + 1, by omega, by go_num, HS.out, below_drewN hB _⟩
            case measure => simp [intOf]; omega
          · have hf : Hid (decide (xs = ys) = false) := by
              show _ = _
              simp
              intro e
              exact he (by rw [e])
            have hz : (xs.getD k 0 != ys.getD k 0) = true := by simpa using he
            clear hT hd hd' he
            generalize ys.getD k 0 = z at *
            generalize xs.getD k 0 = z' at *
            go_wp2
            go_quiet (fail)
            go_wp2
            go_ret
            exact ⟨ret_bool hf.out.symm, below_drewN hB _⟩
        · have hf : Hid (decide (xs = ys) = true) := by
            show _ = _
            simp
            rw [List.take_of_length_le (by omega), List.take_of_length_le (by omega)] at hT
            exact hT
          clear hT hd hd'
          go_wp2
          go_ret
          exact ⟨ret_bool hf.out.symm, hB⟩
  · have hf : Hid (decide (xs = ys) = false) := by
      show _ = _
      simp
      intro e
      rw [e] at hl
      omega
    have hne : ((n : Int) != (n' : Int)) = true := by simp; omega
    clear hc hc'
    go_enter Try.func49, Try.ntmps49
    go_wp2
    go_ret
    exact ⟨ret_bool hf.out.symm, Below.refl _ _⟩

set_option maxHeartbeats 1000000 in
theorem sameMem_same (a1 a2 a3 b1 b2 b3 : Option Addr) (n1 c1 n2 c2 n3 c3 d1 d2 d3 : Nat) (x1 x2 x3 : List Int) (w : World) (h1 : BS w a1 n1 c1 x1) (h2 : BS w a2 n2 c2 x2) (h3 : BS w a3 n3 c3 x3) (k1 : BS w b1 n1 d1 x1) (k2 : BS w b2 n2 d2 x2) (k3 : BS w b3 n3 d3 x3) :
    Calls Try.prog 11 #[.agg #[.slice a1 n1 c1, .slice a2 n2 c2, .slice a3 n3 c3], .agg #[.slice b1 n1 d1, .slice b2 n2 d2, .slice b3 n3 d3]] w fun e w' => e = .returned (.bool true) ∧ Below w.heap.size w w' := by
  have hB0 : Below w.heap.size w ((w.alloc (.cells #[.slice a1 n1 c1, .slice a2 n2 c2, .slice a3 n3 c3] 24)).alloc (.cells #[.slice b1 n1 d1, .slice b2 n2 d2, .slice b3 n3 d3] 24)) := ((Below.refl _ _).alloc (Nat.le_refl _) _).alloc (by simp) _
  have kb := (Blk.new w #[.slice a1 n1 c1, .slice a2 n2 c2, .slice a3 n3 c3] 24).alloc (.cells #[.slice b1 n1 d1, .slice b2 n2 d2, .slice b3 n3 d3] 24)
  have kc := Blk.new (w.alloc (.cells #[.slice a1 n1 c1, .slice a2 n2 c2, .slice a3 n3 c3] 24)) #[.slice b1 n1 d1, .slice b2 n2 d2, .slice b3 n3 d3] 24
  simp only [World.size_alloc] at kc
  go_enter Try.func11, Try.ntmps11
  go_wp2_with fail
  refine (l7Bytes_any _ _ _ _ _ _ x1 x1 _ (h1.below hB0) (k1.below hB0)).mono ?_
  rw [decide_eq_true rfl]
  rintro e w1 ⟨rfl, hb1⟩
  have hB1 := hB0.trans (hb1.mono (by simp; omega))
  have kb := kb.below hb1
  have kc := kc.below hb1
  obtain ⟨q1, q2, q3, q4⟩ := kb.three
  obtain ⟨p1, p2, p3, p4⟩ := kc.three
  clear hb1 hB0
  go_wp2_with fail
  refine (l7Bytes_any _ _ _ _ _ _ x2 x2 _ (h2.below hB1) (k2.below hB1)).mono ?_
  rw [decide_eq_true rfl]
  rintro e w2 ⟨rfl, hb2⟩
  have hB2 := hB1.trans (hb2.mono hB1.size)
  have kb := kb.below hb2
  have kc := kc.below hb2
  clear q1 q2 q3 q4 p1 p2 p3 p4 hb2 hB1
  obtain ⟨q1, q2, q3, q4⟩ := kb.three
  obtain ⟨p1, p2, p3, p4⟩ := kc.three
  go_wp2_with fail
  refine (l7Bytes_any _ _ _ _ _ _ x3 x3 _ (h3.below hB2) (k3.below hB2)).mono ?_
  rw [decide_eq_true rfl]
  rintro e w3 ⟨rfl, hb3⟩
  have hB3 := hB2.trans (hb3.mono hB2.size)
  go_wp2
  go_ret
  exact ⟨rfl, hB3⟩

set_option maxHeartbeats 1000000 in
theorem lowBytes_4 (v : Int) (w : World) (hv : -9223372036854775808 ≤ v ∧ v ≤ 9223372036854775807) :
    Calls Try.prog 16 #[.int .i64 v, .int .i64 4] w fun e w' => e = .returned (.int .i64 (v % 4294967296)) ∧ w = w' := by
  have HP := hide (fun w => l2Power_any 16 (by decide) (by decide) w)
  rw [show (2:Int)^(16 : Int).toNat = 65536 from by decide] at HP
  go_enter Try.func16, Try.ntmps16
  go_wp2_with fail
  refine (l1Word_any v _ hv).mono ?_
  rintro e w1 ⟨rfl, rfl⟩
  obtain ⟨u, hu⟩ : ∃ u, u = v % 4294967296 := ⟨_, rfl⟩
  have hu0 : 0 ≤ u := by omega
  have hu1 : u ≤ 4294967295 := by omega
  have HUU := hide hu
  rw [← hu]
  clear hu
  go_wp2_with (go_at_call 54; refine (HP.out _).mono ?_; rintro e w' ⟨rfl, rfl⟩)
  go_ret
  exact ⟨ret_int (by have := HUU.out; omega), rfl⟩
theorem low_put4 (x : List Int) (k : Nat) (v : Int) (hk : k + 4 ≤ x.length) : low (((put x k v 4).drop k).take 4) = v % 4294967296 := by
  have e : ((put x k v 4).drop k).take 4 = [bt v 0, bt v 1, bt v 2, bt v 3] := by
    apply List.ext_getElem
    · simp [put_len]; omega
    · intro i h1 h2
      simp at h2
      rw [List.getElem_take, List.getElem_drop]
      have hi : i = 0 ∨ i = 1 ∨ i = 2 ∨ i = 3 := by omega
      rcases hi with rfl | rfl | rfl | rfl
      all_goals simp [put, List.getElem_set]
  rw [e]
  simp only [low]
  rw [bt0, bt1, bt2, bt3]
  omega

set_option maxHeartbeats 1000000 in
theorem lowBytes_2 (v : Int) (w : World) (hv : -9223372036854775808 ≤ v ∧ v ≤ 9223372036854775807) :
    Calls Try.prog 16 #[.int .i64 v, .int .i64 2] w fun e w' => e = .returned (.int .i64 (v % 65536)) ∧ w = w' := by
  have HP := hide (fun w => l2Power_any 8 (by decide) (by decide) w)
  rw [show (2:Int)^(8 : Int).toNat = 256 from by decide] at HP
  go_enter Try.func16, Try.ntmps16
  go_wp2_with fail
  refine (l1Word_any v _ hv).mono ?_
  rintro e w1 ⟨rfl, rfl⟩
  obtain ⟨u, hu⟩ : ∃ u, u = v % 4294967296 := ⟨_, rfl⟩
  have hu0 : 0 ≤ u := by omega
  have hu1 : u ≤ 4294967295 := by omega
  have HUU := hide hu
  rw [← hu]
  clear hu
  go_wp2_with (go_at_call 54; refine (HP.out _).mono ?_; rintro e w' ⟨rfl, rfl⟩)
  go_ret
  exact ⟨ret_int (by have := HUU.out; omega), rfl⟩
theorem low_put2 (x : List Int) (k : Nat) (v : Int) (hk : k + 2 ≤ x.length) : low (((put x k v 2).drop k).take 2) = v % 65536 := by
  have e : ((put x k v 2).drop k).take 2 = [bt v 0, bt v 1] := by
    apply List.ext_getElem
    · simp [put_len]; omega
    · intro i h1 h2
      simp at h2
      rw [List.getElem_take, List.getElem_drop]
      have hi : i = 0 ∨ i = 1 := by omega
      rcases hi with rfl | rfl
      all_goals simp [put, List.getElem_set]
  rw [e]
  simp only [low]
  rw [bt0, bt1]
  omega

set_option maxHeartbeats 1000000 in
theorem lowBytes_1 (v : Int) (w : World) (hv : -9223372036854775808 ≤ v ∧ v ≤ 9223372036854775807) :
    Calls Try.prog 16 #[.int .i64 v, .int .i64 1] w fun e w' => e = .returned (.int .i64 (v % 256)) ∧ w = w' := by
  have HP := hide (fun w => l2Power_any 4 (by decide) (by decide) w)
  rw [show (2:Int)^(4 : Int).toNat = 16 from by decide] at HP
  go_enter Try.func16, Try.ntmps16
  go_wp2_with fail
  refine (l1Word_any v _ hv).mono ?_
  rintro e w1 ⟨rfl, rfl⟩
  obtain ⟨u, hu⟩ : ∃ u, u = v % 4294967296 := ⟨_, rfl⟩
  have hu0 : 0 ≤ u := by omega
  have hu1 : u ≤ 4294967295 := by omega
  have HUU := hide hu
  rw [← hu]
  clear hu
  go_wp2_with (go_at_call 54; refine (HP.out _).mono ?_; rintro e w' ⟨rfl, rfl⟩)
  go_ret
  exact ⟨ret_int (by have := HUU.out; omega), rfl⟩
theorem low_put1 (x : List Int) (k : Nat) (v : Int) (hk : k + 1 ≤ x.length) : low (((put x k v 1).drop k).take 1) = v % 256 := by
  have e : ((put x k v 1).drop k).take 1 = [bt v 0] := by
    apply List.ext_getElem
    · simp [put_len]; omega
    · intro i h1 h2
      simp at h2
      rw [List.getElem_take, List.getElem_drop]
      obtain rfl : i = 0 := by omega
      simp [put]
  rw [e]
  simp only [low]
  rw [bt0]
  omega
end Go.Proofs.Ytngdgogjlpjjpac
