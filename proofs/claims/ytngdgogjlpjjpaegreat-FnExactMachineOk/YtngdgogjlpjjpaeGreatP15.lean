import Derived.Deep.AppendLies
import Derived.Deep.RegionLaw
import Derived.Laws.EntriesVeiled
import Derived.Test.YtngdgogjlpjjpaeGreatP00
import Derived.Test.YtngdgogjlpjjpaeGreatP01
import Derived.Test.YtngdgogjlpjjpaeGreatP10
namespace Go.Proofs.YtngdgogjlpjjpaeGreat
open Go.RowKit Classical
set_option linter.unusedVariables false
set_option linter.unusedSimpArgs false
set_option maxRecDepth 100000
theorem take_succ_eq {α : Type} (z : α) (xs ys : List α) (k : Nat) (h : xs.take k = ys.take k) (hx : k < xs.length) (hy : k < ys.length) (he : xs.getD k z = ys.getD k z) : xs.take (k + 1) = ys.take (k + 1) := by
  rw [List.take_succ_eq_append_getElem hx, List.take_succ_eq_append_getElem hy, h]
  simp [List.getD_eq_getElem?_getD, hx, hy] at he
  rw [he]
set_option maxHeartbeats 1000000 in
theorem l5SameNums_any (a a' : Option Addr) (n cap n' cap' : Nat) (xs ys : List Int) (w : World) (h : IS w a n cap xs) (h' : IS w a' n' cap' ys) :
    Calls Tryz.prog 79 #[.slice a n cap, .slice a' n' cap'] w fun e w' => e = .returned (.bool (decide (xs = ys))) ∧ Below w.heap.size w w' := by
  obtain ⟨hl, hmx, hr, hc, _⟩ := h
  obtain ⟨hl', hmx', hr', hc', _⟩ := h'
  unfold maxLen at hmx hmx'
  by_cases hn : n = n'
  · subst hn
    have hne : ((n : Int) != (n : Int)) = false := by simp
    by_cases hn0 : n = 0
    · subst hn0
      obtain rfl : xs = [] := List.eq_nil_of_length_eq_zero hl
      obtain rfl : ys = [] := List.eq_nil_of_length_eq_zero hl'
      clear hc hc'
      go_enter Tryz.func79, Tryz.ntmps79
      go_wp2
      go_loop [5] (fun i => i = .int .i64 0) (fun _ => 0)
      case atStart => rfl
      case round =>
        obtain rfl := hrel
        go_wp2
        go_ret
        exact ⟨rfl, Below.refl _ _⟩
    · obtain ⟨b, off, rfl, hd⟩ := hc hn0
      obtain ⟨b', off', rfl, hd'⟩ := hc' hn0
      clear hc hc'
      go_enter Tryz.func79, Tryz.ntmps79
      go_wp2
      go_loopw [5] (fun i wr => ∃ k : Nat, k ≤ n ∧ i = .int .i64 k ∧ xs.take k = ys.take k ∧ Below w.heap.size w wr) (fun i _ => n - (intOf i).toNat)
      case atStart => exact ⟨0, Nat.zero_le _, rfl, by simp, Below.refl _ _⟩
      case round =>
        obtain ⟨k, hk, rfl, hT, hB⟩ := hrel
        by_cases hlt : k < n
        · have hlt' : (k : Int) < (n : Int) := by omega
          have hck : wr.cell? ⟨b, off + k, none⟩ = some (.int .i64 (xs.getD k 0)) := (hB.cell (World.block_lt_of_cell? w _ (hd k hlt))).trans (hd k hlt)
          have hck' : wr.cell? ⟨b', off' + k, none⟩ = some (.int .i64 (ys.getD k 0)) := (hB.cell (World.block_lt_of_cell? w _ (hd' k hlt))).trans (hd' k hlt)
          by_cases he : xs.getD k 0 = ys.getD k 0
          · have hS := take_eq_succI xs ys k hT (by omega) (by omega) he
            have HS : Hid (xs.take (k + 1) = ys.take (k + 1)) := hS
            rw [he] at hck
            clear hS hT hd hd' he
            generalize ys.getD k 0 = z at *
            have hz : (z != z) = false := by simp
            go_wp2
            go_quiet (fail)
            go_wp2
            go_roundw
            case rel => exact ⟨k + 1, by omega, by go_num, HS.out, below_drewN hB _⟩
            case measure => simp [intOf]; omega
          · have hf : Hid (decide (xs = ys) = false) := by
              show _ = _
              simp
              intro e
              exact he (by rw [e])
            have hz : (xs.getD k 0 != ys.getD k 0) = true := by simpa using he
            clear hT hd hd' he
            generalize ys.getD k 0 = z at *
            generalize xs.getD k 0 = z' at *
            go_wp2
            go_quiet (fail)
            go_wp2
            go_ret
            exact ⟨ret_bool hf.out.symm, below_drewN hB _⟩
        · have hf : Hid (decide (xs = ys) = true) := by
            show _ = _
            simp
            rw [List.take_of_length_le (by omega), List.take_of_length_le (by omega)] at hT
            exact hT
          clear hT hd hd'
          go_wp2
          go_ret
          exact ⟨ret_bool hf.out.symm, hB⟩
  · have hf : Hid (decide (xs = ys) = false) := by
      show _ = _
      simp
      intro e
      rw [e] at hl
      omega
    have hne : ((n : Int) != (n' : Int)) = true := by simp; omega
    clear hc hc'
    go_enter Tryz.func79, Tryz.ntmps79
    go_wp2
    go_ret
    exact ⟨ret_bool hf.out.symm, Below.refl _ _⟩
set_option maxHeartbeats 1000000 in
theorem sliceEqI_any (a a' : Option Addr) (n cap n' cap' : Nat) (xs ys : List Int) (w : World) (h : IS w a n cap xs) (h' : IS w a' n' cap' ys) :
    Calls Tryz.prog 204 #[.slice a n cap, .slice a' n' cap'] w fun e w' => e = .returned (.bool (decide (xs = ys))) ∧ Below w.heap.size w w' := by
  obtain ⟨hl, hmx, hr, hc, _⟩ := h
  obtain ⟨hl', hmx', hr', hc', _⟩ := h'
  unfold maxLen at hmx hmx'
  by_cases hn : n = n'
  · subst hn
    have hne : ((n : Int) != (n : Int)) = false := by simp
    by_cases hn0 : n = 0
    · subst hn0
      obtain rfl : xs = [] := List.eq_nil_of_length_eq_zero hl
      obtain rfl : ys = [] := List.eq_nil_of_length_eq_zero hl'
      clear hc hc'
      go_enter Tryz.func204, Tryz.ntmps204
      go_wp2
      go_loop [13] (fun i => i = .int .i64 0) (fun _ => 0)
      case atStart => rfl
      case round =>
        obtain rfl := hrel
        go_wp2
        go_ret
        exact ⟨rfl, Below.refl _ _⟩
    · obtain ⟨b, off, rfl, hd⟩ := hc hn0
      obtain ⟨b', off', rfl, hd'⟩ := hc' hn0
      clear hc hc'
      go_enter Tryz.func204, Tryz.ntmps204
      go_wp2
      go_loopw [13] (fun i wr => ∃ k : Nat, k ≤ n ∧ i = .int .i64 k ∧ xs.take k = ys.take k ∧ Below w.heap.size w wr) (fun i _ => n - (intOf i).toNat)
      case atStart => exact ⟨0, Nat.zero_le _, rfl, by simp, Below.refl _ _⟩
      case round =>
        obtain ⟨k, hk, rfl, hT, hB⟩ := hrel
        by_cases hlt : k < n
        · have hlt' : (k : Int) < (n : Int) := by omega
          have hck : wr.cell? ⟨b, off + k, none⟩ = some (.int .i64 (xs.getD k 0)) := (hB.cell (World.block_lt_of_cell? w _ (hd k hlt))).trans (hd k hlt)
          have hck' : wr.cell? ⟨b', off' + k, none⟩ = some (.int .i64 (ys.getD k 0)) := (hB.cell (World.block_lt_of_cell? w _ (hd' k hlt))).trans (hd' k hlt)
          by_cases he : xs.getD k 0 = ys.getD k 0
          · have hS := take_eq_succI xs ys k hT (by omega) (by omega) he
            have HS : Hid (xs.take (k + 1) = ys.take (k + 1)) := hS
            rw [he] at hck
            clear hS hT hd hd' he
            generalize ys.getD k 0 = z at *
            have hz : (z != z) = false := by simp
            go_wp2
            go_quiet (fail)
            go_wp2
            go_roundw
            case rel => exact ⟨k + 1, by omega, by go_num, HS.out, below_drewN hB _⟩
            case measure => simp [intOf]; omega
          · have hf : Hid (decide (xs = ys) = false) := by
              show _ = _
              simp
              intro e
              exact he (by rw [e])
            have hz : (xs.getD k 0 != ys.getD k 0) = true := by simpa using he
            clear hT hd hd' he
            generalize ys.getD k 0 = z at *
            generalize xs.getD k 0 = z' at *
            go_wp2
            go_quiet (fail)
            go_wp2
            go_ret
            exact ⟨ret_bool hf.out.symm, below_drewN hB _⟩
        · have hf : Hid (decide (xs = ys) = true) := by
            show _ = _
            simp
            rw [List.take_of_length_le (by omega), List.take_of_length_le (by omega)] at hT
            exact hT
          clear hT hd hd'
          go_wp2
          go_ret
          exact ⟨ret_bool hf.out.symm, hB⟩
  · have hf : Hid (decide (xs = ys) = false) := by
      show _ = _
      simp
      intro e
      rw [e] at hl
      omega
    have hne : ((n : Int) != (n' : Int)) = true := by simp; omega
    clear hc hc'
    go_enter Tryz.func204, Tryz.ntmps204
    go_wp2
    go_ret
    exact ⟨ret_bool hf.out.symm, Below.refl _ _⟩
end Go.Proofs.YtngdgogjlpjjpaeGreat
namespace Go.Proofs.YtngdgogjlpjjpaeGreat
open Go.RowKit Classical
set_option linter.unusedVariables false
set_option maxHeartbeats 400000 in
theorem l2Power_any (n : Int) (h0 : 0 ≤ n) (h : n ≤ 20) (w : World) :
    Calls Tryz.prog 275 #[.int .i64 n] w fun e w' => e = .returned (.int .i64 ((2:Int)^n.toNat)) ∧ w' = w := by
  go_enter Tryz.func275, Tryz.ntmps275
  go_wp2
  go_loop [3, 4] (fun v i => ∃ k : Nat, (k : Int) ≤ n ∧ i = .int .i64 k ∧ v = .int .i64 ((2:Int)^k)) (fun _ i => n.toNat - (intOf i).toNat)
  case atStart => exact ⟨0, by omega, rfl, rfl⟩
  case round =>
    obtain ⟨k, hk, rfl, rfl⟩ := hrel
    by_cases hlt : (k : Int) < n
    · have hp := pow_lt k (by omega)
      have hp0 := pow_pos k
      have hs : Hid ((2:Int)^(k+1) = (2:Int)^k * 2) := Int.pow_succ 2 k
      generalize (2:Int)^k = P at *
      go_wp2
      go_round
      case rel => exact ⟨k + 1, by omega, by go_num, by rw [hs.out]⟩
      case measure => simp [intOf]; omega
    · have e : Hid (n.toNat = k) := by show n.toNat = k; omega
      go_wp2
      go_ret
      exact ⟨ret_int (by rw [e.out]), rfl⟩
def rok (b l o : Int) : Bool :=
  decide (5 ≤ l ∧ l ≤ 14 ∧ 0 ≤ o ∧ o ≤ 255 ∧ (8 ≤ l ∨ o = 0) ∧ 0 ≤ b ∧ b ≤ 262144 - (2:Int)^l.toNat ∧ b % (2:Int)^l.toNat = 0)
set_option maxHeartbeats 1000000 in
theorem sRegionOk_any (b l o : Int) (r x y : Bool) (w : World) (hb : (Lit.int .i64 b).wf = true) :
    Calls Tryz.prog 276 #[.agg #[.int .i64 b, .int .i64 l, .int .i64 o, .bool r, .bool x, .bool y]] w fun e w' => e = .returned (.bool (rok b l o)) ∧ Below w.heap.size w w' := by
  by_cases h1 : l < 5
  · have hf : Hid (rok b l o = false) := by show _ = _; unfold rok; simp; omega
    go_enter Tryz.func276, Tryz.ntmps276
    go_wp2
    go_ret
    exact ⟨ret_bool hf.out.symm, (Below.refl _ _).alloc (Nat.le_refl _) _⟩
  · by_cases h2 : 14 < l
    · have hf : Hid (rok b l o = false) := by show _ = _; unfold rok; simp; omega
      go_enter Tryz.func276, Tryz.ntmps276
      go_wp2
      go_ret
      exact ⟨ret_bool hf.out.symm, (Below.refl _ _).alloc (Nat.le_refl _) _⟩
    · by_cases h3 : o < 0
      · have hf : Hid (rok b l o = false) := by show _ = _; unfold rok; simp; omega
        go_enter Tryz.func276, Tryz.ntmps276
        go_wp2
        go_ret
        exact ⟨ret_bool hf.out.symm, (Below.refl _ _).alloc (Nat.le_refl _) _⟩
      · by_cases h4 : 255 < o
        · have hf : Hid (rok b l o = false) := by show _ = _; unfold rok; simp; omega
          go_enter Tryz.func276, Tryz.ntmps276
          go_wp2
          go_ret
          exact ⟨ret_bool hf.out.symm, (Below.refl _ _).alloc (Nat.le_refl _) _⟩
        · by_cases h5 : l < 8 ∧ o ≠ 0
          · obtain ⟨h5a, h5b⟩ := h5
            have hf : Hid (rok b l o = false) := by show _ = _; unfold rok; simp; omega
            have h5c : (o != 0) = true := by simpa using h5b
            clear h5b
            go_enter Tryz.func276, Tryz.ntmps276
            go_wp2
            go_ret
            exact ⟨ret_bool hf.out.symm, (Below.refl _ _).alloc (Nat.le_refl _) _⟩
          · have hp := pow_lt l.toNat (by omega)
            have hp0 := pow_pos l.toNat
            have hf : Hid (rok b l o = decide (0 ≤ b ∧ b ≤ 262144 - (2:Int)^l.toNat ∧ b % (2:Int)^l.toNat = 0)) := by
              show _ = _; unfold rok; congr 1; apply propext; constructor
              · rintro ⟨_, _, _, _, _, h⟩; exact h
              · intro h; exact ⟨by omega, by omega, by omega, by omega, by omega, h⟩
            by_cases h8 : l < 8
            · have h0 : o = 0 := by omega
              subst h0
              clear h5 h3 h4
              go_enter Tryz.func276, Tryz.ntmps276
              go_wp2_with (go_at_call 275; refine (l2Power_any _ (by omega) (by omega) _).mono ?_; rintro e w' ⟨rfl, rfl⟩)
              all_goals
                go_ret
                refine ⟨ret_bool ?_, (Below.refl _ _).alloc (Nat.le_refl _) _⟩
                rw [hf.out, Bool.eq_iff_iff]
                simp
                try omega
            · clear h5
              go_enter Tryz.func276, Tryz.ntmps276
              go_wp2_with (go_at_call 275; refine (l2Power_any _ (by omega) (by omega) _).mono ?_; rintro e w' ⟨rfl, rfl⟩)
              all_goals
                go_ret
                refine ⟨ret_bool ?_, (Below.refl _ _).alloc (Nat.le_refl _) _⟩
                rw [hf.out, Bool.eq_iff_iff]
                simp
                try omega
set_option maxHeartbeats 1000000 in
theorem iRegionOk_any (b l o : Int) (r x y : Bool) (w : World) (hb : (Lit.int .i64 b).wf = true) :
    Calls Tryz.prog 293 #[.agg #[.int .i64 b, .int .i64 l, .int .i64 o, .bool r, .bool x, .bool y]] w fun e w' => e = .returned (.bool (rok b l o)) ∧ Below w.heap.size w w' := by
  by_cases h1 : l < 5
  · have hf : Hid (rok b l o = false) := by show _ = _; unfold rok; simp; omega
    go_enter Tryz.func293, Tryz.ntmps293
    go_wp2
    go_ret
    exact ⟨ret_bool hf.out.symm, (Below.refl _ _).alloc (Nat.le_refl _) _⟩
  · by_cases h2 : 14 < l
    · have hf : Hid (rok b l o = false) := by show _ = _; unfold rok; simp; omega
      go_enter Tryz.func293, Tryz.ntmps293
      go_wp2
      go_ret
      exact ⟨ret_bool hf.out.symm, (Below.refl _ _).alloc (Nat.le_refl _) _⟩
    · by_cases h3 : o < 0
      · have hf : Hid (rok b l o = false) := by show _ = _; unfold rok; simp; omega
        go_enter Tryz.func293, Tryz.ntmps293
        go_wp2
        go_ret
        exact ⟨ret_bool hf.out.symm, (Below.refl _ _).alloc (Nat.le_refl _) _⟩
      · by_cases h4 : 255 < o
        · have hf : Hid (rok b l o = false) := by show _ = _; unfold rok; simp; omega
          go_enter Tryz.func293, Tryz.ntmps293
          go_wp2
          go_ret
          exact ⟨ret_bool hf.out.symm, (Below.refl _ _).alloc (Nat.le_refl _) _⟩
        · by_cases h5 : l < 8 ∧ o ≠ 0
          · obtain ⟨h5a, h5b⟩ := h5
            have hf : Hid (rok b l o = false) := by show _ = _; unfold rok; simp; omega
            have h5c : (o != 0) = true := by simpa using h5b
            clear h5b
            go_enter Tryz.func293, Tryz.ntmps293
            go_wp2
            go_ret
            exact ⟨ret_bool hf.out.symm, (Below.refl _ _).alloc (Nat.le_refl _) _⟩
          · have hp := pow_lt l.toNat (by omega)
            have hp0 := pow_pos l.toNat
            have hf : Hid (rok b l o = decide (0 ≤ b ∧ b ≤ 262144 - (2:Int)^l.toNat ∧ b % (2:Int)^l.toNat = 0)) := by
              show _ = _; unfold rok; congr 1; apply propext; constructor
              · rintro ⟨_, _, _, _, _, h⟩; exact h
              · intro h; exact ⟨by omega, by omega, by omega, by omega, by omega, h⟩
            by_cases h8 : l < 8
            · have h0 : o = 0 := by omega
              subst h0
              clear h5 h3 h4
              go_enter Tryz.func293, Tryz.ntmps293
              go_wp2
              all_goals
                go_ret
                refine ⟨ret_bool ?_, (Below.refl _ _).alloc (Nat.le_refl _) _⟩
                rw [hf.out, Bool.eq_iff_iff]
                simp [*]
                try omega
            · clear h5
              by_cases ho : o = 0
              · subst ho
                clear h3 h4
                go_enter Tryz.func293, Tryz.ntmps293
                go_wp2
                all_goals
                  go_ret
                  refine ⟨ret_bool ?_, (Below.refl _ _).alloc (Nat.le_refl _) _⟩
                  rw [hf.out, Bool.eq_iff_iff]
                  simp [*]
                  try omega
              · have ho' : (o != 0) = true := by simpa using ho
                clear ho
                go_enter Tryz.func293, Tryz.ntmps293
                go_wp2
                all_goals
                  go_ret
                  refine ⟨ret_bool ?_, (Below.refl _ _).alloc (Nat.le_refl _) _⟩
                  rw [hf.out, Bool.eq_iff_iff]
                  simp [*]
                  try omega
def popc (x : Nat) : Nat := x % 2 + x / 2 % 2 + x / 4 % 2 + x / 8 % 2 + x / 16 % 2 + x / 32 % 2 + x / 64 % 2 + x / 128 % 2
set_option maxRecDepth 100000 in
set_option maxHeartbeats 1000000 in
theorem onesCount8_any (x : Nat) (w : World) (h1 : x < 256) :
    Calls Tryz.prog 288 #[.int .u8 x] w fun e w' => e = .returned (.int .i64 (popc x)) ∧ w = w' := by
  go_enter Tryz.func288, Tryz.ntmps288
  go_wp2
  go_ret
  refine ⟨ret_int ?_, rfl⟩
  clear w
  revert x
  decide +kernel
theorem cv_xor255 : ∀ o : Fin 256, (255 ^^^ (255 - o.val)) = o.val := by decide +kernel
theorem cv_xor (q : Nat) (h : q < 256) : bits BinOp.xor IntKind.u8 IntKind.u8.max (255 - (q : Int)) = (q : Int) := by
  have hm : IntKind.u8.max = 255 := by decide
  rw [hm, u8_xor 255 (255 - (q : Int)) (by omega) (by omega) (by omega) (by omega)]
  have := cv_xor255 ⟨q, h⟩
  simp only at this
  have e : (255:Int).toNat = 255 := rfl
  have e2 : (255 - (q : Int)).toNat = 255 - q := by omega
  rw [e, e2, this]
theorem popc_le : ∀ q, q < 256 → popc q ≤ 8 := by decide +kernel
set_option maxHeartbeats 1000000 in
theorem cvParts_any (b l : Int) (q : Nat) (r x y : Bool) (w : World) (h : q < 256) :
    Calls Tryz.prog 289 #[.agg #[.int .i64 b, .int .i64 l, .int .i64 (255 - (q : Int)), .bool r, .bool x, .bool y]] w fun e w' => e = .returned (.int .u8 q) ∧ Below w.heap.size w w' := by
  have hx := hide (cv_xor q h)
  have h0 : 0 ≤ 255 - (q : Int) := by omega
  have h1 : 255 - (q : Int) ≤ 255 := by omega
  generalize 255 - (q : Int) = o at *
  go_enter Tryz.func289, Tryz.ntmps289
  go_wp2
  go_ret
  exact ⟨ret_int hx.out, (Below.refl _ _).alloc (Nat.le_refl _) _⟩
theorem Blk.six' {w : World} {g : Nat} {a b c d e f : Value} {t : TypeId} (h : Blk w g #[a, b, c, d, e, f] t) :
    w.cell? ⟨g, 0, none⟩ = some a ∧ w.cell? ⟨g, 1, none⟩ = some b ∧ w.cell? ⟨g, 2, none⟩ = some c ∧ w.cell? ⟨g, 3, none⟩ = some d ∧ w.cell? ⟨g, 4, none⟩ = some e ∧ w.cell? ⟨g, 5, none⟩ = some f ∧ ∀ i, w.frozen? ⟨g, i, none⟩ = false :=
  ⟨by rw [h.cell]; rfl, by rw [h.cell]; rfl, by rw [h.cell]; rfl, by rw [h.cell]; rfl, by rw [h.cell]; rfl, by rw [h.cell]; rfl, fun i => h.frozen i⟩
theorem cv_wrap {n : Int} (h0 : -9223372036854775808 ≤ n) (h1 : n ≤ 9223372036854775807) : IntKind.i64.wrap n = n := by
  simp only [IntKind.wrap, IntKind.bits, IntKind.signed]
  simp
  omega
def cnt (l : Int) (q : Nat) : Int := (popc q : Int) * (2:Int)^(l - 3).toNat
set_option maxHeartbeats 1000000 in
theorem addressCount_any (b l : Int) (q : Nat) (r x y : Bool) (w : World) (h : q < 256) (hl : 5 ≤ l) (hl' : l ≤ 14) :
    Calls Tryz.prog 283 #[.agg #[.int .i64 b, .int .i64 l, .int .i64 (255 - (q : Int)), .bool r, .bool x, .bool y]] w fun e w' => e = .returned (.int .i64 (cnt l q)) ∧ Below w.heap.size w w' := by
  have hp := popc_le q h
  have hpw := pow_lt (l - 3).toNat (by omega)
  have hpw0 := pow_pos (l - 3).toNat
  have hmul : (popc q : Int) * (2:Int)^(l - 3).toNat ≤ 8 * 1048576 := by
    have h1 : (popc q : Int) * (2:Int)^(l - 3).toNat ≤ 8 * (2:Int)^(l - 3).toNat := Int.mul_le_mul_of_nonneg_right (by omega) (by omega)
    omega
  have hmul0 : 0 ≤ (popc q : Int) * (2:Int)^(l - 3).toNat := Int.mul_nonneg (by omega) (by omega)
  have hw2 : IntKind.i64.wrap (l - 3) = l - 3 := cv_wrap (by omega) (by omega)
  have HC := hide (show cnt l q = (popc q : Int) * (2:Int)^(l - 3).toNat from rfl)
  have kb := Blk.new w #[.int .i64 b, .int .i64 l, .int .i64 (255 - (q : Int)), .bool r, .bool x, .bool y] 158
  have hB0 : Below w.heap.size w (w.alloc (.cells #[.int .i64 b, .int .i64 l, .int .i64 (255 - (q : Int)), .bool r, .bool x, .bool y] 158)) := (Below.refl _ _).alloc (Nat.le_refl _) _
  have HM := hide (And.intro hmul0 hmul)
  clear hmul hmul0
  have HP := hide (onesCount8_any q)
  go_enter Tryz.func283, Tryz.ntmps283
  go_wp2
  go_region_held3 (fun w' => w'.cell? ⟨w.heap.size, 0, none⟩ = some (.int .i64 b) ∧ w'.cell? ⟨w.heap.size, 1, none⟩ = some (.int .i64 l) ∧ w'.cell? ⟨w.heap.size, 2, none⟩ = some (.int .i64 (255 - (q : Int))) ∧ w'.cell? ⟨w.heap.size, 3, none⟩ = some (.bool r) ∧ w'.cell? ⟨w.heap.size, 4, none⟩ = some (.bool x) ∧ w'.cell? ⟨w.heap.size, 5, none⟩ = some (.bool y)) (go_keep)
    (first
      | (go_at_call 289; refine (cvParts_any b l q r x y _ h).mono ?_; rintro e w1 ⟨rfl, hb1⟩; obtain ⟨q1, q2, q3, q4, q5, q6, q7⟩ := (Blk.below (by exact kb) hb1).six')
      | (go_at_call 288; refine (HP.out _ h).mono ?_; rintro e w2 ⟨rfl, rfl⟩))
  go_wp2
  go_ret
  refine ⟨ret_int ?_, hB0.drew.trans (hb1.mono (by simp))⟩
  rw [HC.out]
  exact cv_wrap (by have := HM.out; omega) (by have := HM.out; omega)
theorem cv_or : ∀ (q i : Nat), q < 256 → i < 8 → (q ||| 2 ^ i) < 256 := by
  intro q i hq hi
  exact Nat.or_lt_two_pow (n := 8) hq (Nat.pow_lt_pow_right (by omega) hi)
set_option maxHeartbeats 1000000 in
theorem with_any (q i : Nat) (w : World) (h : q < 256) (hi : i < 8) :
    Calls Tryz.prog 292 #[.int .u8 q, .int .i64 i] w fun e w' => e = .returned (.int .u8 ((q ||| 2 ^ i : Nat) : Int)) ∧ w = w' := by
  go_enter Tryz.func292, Tryz.ntmps292
  go_wp2
  go_ret
  refine ⟨ret_int ?_, rfl⟩
  have hp : (2:Nat)^i < 256 := Nat.pow_lt_pow_right (by omega) hi
  have e : (2:Int)^i % 256 = ((2^i : Nat) : Int) := by
    have : ((2^i : Nat) : Int) = (2:Int)^i := by simp
    have := pow_pos i
    omega
  rw [e]
  exact u8_or_nat q (2^i) h hp
def cm (l : Int) (q : Nat) (l' : Int) (q' : Nat) : Bool := decide (cnt l' q' < cnt l q ∨ (cnt l q = cnt l' q' ∧ l < l'))
set_option maxHeartbeats 2000000 in
theorem coversMore_any (b l b' l' : Int) (q q' : Nat) (w : World) (h : q < 256) (h' : q' < 256) (hl : 5 ≤ l) (hl2 : l ≤ 14) (hl' : 5 ≤ l') (hl2' : l' ≤ 14) :
    Calls Tryz.prog 286 #[.agg #[.int .i64 b, .int .i64 l, .int .i64 (255 - (q : Int)), .bool false, .bool false, .bool false], .agg #[.int .i64 b', .int .i64 l', .int .i64 (255 - (q' : Int)), .bool false, .bool false, .bool false]] w fun e w' => e = .returned (.bool (cm l q l' q')) ∧ Below w.heap.size w w' := by
  have ka := (Blk.new w #[.int .i64 b, .int .i64 l, .int .i64 (255 - (q : Int)), .bool false, .bool false, .bool false] 158).alloc (.cells #[.int .i64 b', .int .i64 l', .int .i64 (255 - (q' : Int)), .bool false, .bool false, .bool false] 158)
  have kb := Blk.new (w.alloc (.cells #[.int .i64 b, .int .i64 l, .int .i64 (255 - (q : Int)), .bool false, .bool false, .bool false] 158)) #[.int .i64 b', .int .i64 l', .int .i64 (255 - (q' : Int)), .bool false, .bool false, .bool false] 158
  simp only [World.size_alloc] at kb
  have hB0 : Below w.heap.size w ((w.alloc (.cells #[.int .i64 b, .int .i64 l, .int .i64 (255 - (q : Int)), .bool false, .bool false, .bool false] 158)).alloc (.cells #[.int .i64 b', .int .i64 l', .int .i64 (255 - (q' : Int)), .bool false, .bool false, .bool false] 158)) := ((Below.refl _ _).alloc (Nat.le_refl _) _).alloc (by simp) _
  have A1 := hide (addressCount_any b l q false false false)
  have A2 := hide (addressCount_any b' l' q' false false false)
  obtain ⟨o, ho⟩ : ∃ o, o = 255 - (q : Int) := ⟨_, rfl⟩
  obtain ⟨o', ho'⟩ : ∃ o', o' = 255 - (q' : Int) := ⟨_, rfl⟩
  have HM := hide (show cm l q l' q' = decide (cnt l' q' < cnt l q ∨ (cnt l q = cnt l' q' ∧ l < l')) from rfl)
  rw [← ho] at A1 ka kb hB0 ⊢
  rw [← ho'] at A2 ka kb hB0 ⊢
  clear ho ho'
  generalize cnt l q = c1 at *
  generalize cnt l' q' = c2 at *
  go_enter Tryz.func286, Tryz.ntmps286
  go_wp2
  go_region_held3 (fun w' => w'.cell? ⟨w.heap.size, 0, none⟩ = some (.int .i64 b) ∧ w'.cell? ⟨w.heap.size, 1, none⟩ = some (.int .i64 l) ∧ w'.cell? ⟨w.heap.size, 2, none⟩ = some (.int .i64 o) ∧ w'.cell? ⟨w.heap.size, 3, none⟩ = some (.bool false) ∧ w'.cell? ⟨w.heap.size, 4, none⟩ = some (.bool false) ∧ w'.cell? ⟨w.heap.size, 5, none⟩ = some (.bool false) ∧ w'.cell? ⟨w.heap.size + 1, 0, none⟩ = some (.int .i64 b') ∧ w'.cell? ⟨w.heap.size + 1, 1, none⟩ = some (.int .i64 l') ∧ w'.cell? ⟨w.heap.size + 1, 2, none⟩ = some (.int .i64 o') ∧ w'.cell? ⟨w.heap.size + 1, 3, none⟩ = some (.bool false) ∧ w'.cell? ⟨w.heap.size + 1, 4, none⟩ = some (.bool false) ∧ w'.cell? ⟨w.heap.size + 1, 5, none⟩ = some (.bool false)) (go_keep)
    (first
      | (go_at_call_of 283 (Value.int .i64 l); refine (A1.out _ h hl hl2).mono ?_; rintro e w1 ⟨rfl, hb1⟩; replace hb1 := undrew hb1; obtain ⟨q1, q2, q3, q4, q5, q6, q7⟩ := (ka.below hb1).six'; obtain ⟨p1, p2, p3, p4, p5, p6, p7⟩ := (kb.below hb1).six')
      | (go_at_call_of 283 (Value.int .i64 l'); refine (A2.out _ h' hl' hl2').mono ?_; rintro e w2 ⟨rfl, hb2⟩; replace hb2 := hb1.trans (hb2.mono hb1.size); obtain ⟨q1, q2, q3, q4, q5, q6, q7⟩ := (ka.below hb2).six'; obtain ⟨p1, p2, p3, p4, p5, p6, p7⟩ := (kb.below hb2).six'))
  have ka2 := ka.below hb2
  have kb2 := kb.below hb2
  have hB2 := hB0.trans (hb2.mono hB0.size)
  clear hb1 hb2 ka kb hB0
  by_cases hc : c1 = c2
  · subst hc
    have hne : (c1 != c1) = false := by simp
    have HF := hide (show decide (c1 < c1 ∨ (c1 = c1 ∧ l < l')) = decide (l < l') from by simp)
    obtain ⟨q1, q2, q3, q4, q5, q6, q7⟩ := ka2.six'
    obtain ⟨p1, p2, p3, p4, p5, p6, p7⟩ := kb2.six'
    go_wp2
    go_ret
    exact ⟨ret_bool (by rw [HM.out, HF.out]), hB2⟩
  · have hne : (c1 != c2) = true := by simpa using hc
    have HF := hide (show decide (c2 < c1 ∨ (c1 = c2 ∧ l < l')) = decide (c2 < c1) from by simp [hc])
    clear hc
    obtain ⟨q1, q2, q3, q4, q5, q6, q7⟩ := ka2.six'
    obtain ⟨p1, p2, p3, p4, p5, p6, p7⟩ := kb2.six'
    go_wp2
    go_region_held3 (fun w' => w'.cell? ⟨w.heap.size, 0, none⟩ = some (.int .i64 b) ∧ w'.cell? ⟨w.heap.size, 1, none⟩ = some (.int .i64 l) ∧ w'.cell? ⟨w.heap.size, 2, none⟩ = some (.int .i64 o) ∧ w'.cell? ⟨w.heap.size, 3, none⟩ = some (.bool false) ∧ w'.cell? ⟨w.heap.size, 4, none⟩ = some (.bool false) ∧ w'.cell? ⟨w.heap.size, 5, none⟩ = some (.bool false) ∧ w'.cell? ⟨w.heap.size + 1, 0, none⟩ = some (.int .i64 b') ∧ w'.cell? ⟨w.heap.size + 1, 1, none⟩ = some (.int .i64 l') ∧ w'.cell? ⟨w.heap.size + 1, 2, none⟩ = some (.int .i64 o') ∧ w'.cell? ⟨w.heap.size + 1, 3, none⟩ = some (.bool false) ∧ w'.cell? ⟨w.heap.size + 1, 4, none⟩ = some (.bool false) ∧ w'.cell? ⟨w.heap.size + 1, 5, none⟩ = some (.bool false)) (go_keep)
      (first
        | (go_at_call_of 283 (Value.int .i64 l); refine (A1.out _ h hl hl2).mono ?_; rintro e w3 ⟨rfl, hb1⟩; replace hb1 := undrew hb1; obtain ⟨q1, q2, q3, q4, q5, q6, q7⟩ := (ka2.below hb1).six'; obtain ⟨p1, p2, p3, p4, p5, p6, p7⟩ := (kb2.below hb1).six')
        | (go_at_call_of 283 (Value.int .i64 l'); refine (A2.out _ h' hl' hl2').mono ?_; rintro e w4 ⟨rfl, hb2⟩; replace hb2 := hb1.trans (hb2.mono hb1.size); obtain ⟨q1, q2, q3, q4, q5, q6, q7⟩ := (ka2.below hb2).six'; obtain ⟨p1, p2, p3, p4, p5, p6, p7⟩ := (kb2.below hb2).six'))
    have hB4 := hB2.trans (hb2.mono hB2.size)
    clear hb1 hb2 q1 q2 q3 q4 q5 q6 q7 p1 p2 p3 p4 p5 p6 p7
    go_wp2
    go_ret
    exact ⟨ret_bool (by rw [HM.out, HF.out]), hB4⟩
def Bst (w : World) (B : Nat) (fd : Bool) (b l o : Int) : Prop :=
  Blk w B #[.func (Fn.func 286) #[] #[], .bool fd, .int .i64 b, .int .i64 l, .int .i64 o, .bool false, .bool false, .bool false] 308
theorem Bst.cells {w : World} {B : Nat} {fd : Bool} {b l o : Int} (h : Bst w B fd b l o) :
    w.cell? ⟨B, 0, none⟩ = some (.func (Fn.func 286) #[] #[]) ∧ w.cell? ⟨B, 1, none⟩ = some (.bool fd) ∧ w.cell? ⟨B, 2, none⟩ = some (.int .i64 b) ∧ w.cell? ⟨B, 3, none⟩ = some (.int .i64 l) ∧ w.cell? ⟨B, 4, none⟩ = some (.int .i64 o) ∧ w.cell? ⟨B, 5, none⟩ = some (.bool false) ∧ w.cell? ⟨B, 6, none⟩ = some (.bool false) ∧ w.cell? ⟨B, 7, none⟩ = some (.bool false) ∧ ∀ i, w.frozen? ⟨B, i, none⟩ = false :=
  ⟨by rw [Blk.cell h]; rfl, by rw [Blk.cell h]; rfl, by rw [Blk.cell h]; rfl, by rw [Blk.cell h]; rfl, by rw [Blk.cell h]; rfl, by rw [Blk.cell h]; rfl, by rw [Blk.cell h]; rfl, by rw [Blk.cell h]; rfl, fun i => Blk.frozen h i⟩
theorem turn_drew {S : Nat → Prop} {a W : World} (h : Turn S a W) (n : Nat) : Turn S a (W.drewN n) := ⟨h.os, h.tape, h.output, h.size, h.block⟩
def taken (W : World) (B : Nat) (b l o : Int) : World :=
  ((((((W.setCell ⟨B, 1, none⟩ (.bool true)).setCell ⟨B, 2, none⟩ (.int .i64 b)).setCell ⟨B, 3, none⟩ (.int .i64 l)).setCell ⟨B, 4, none⟩ (.int .i64 o)).setCell ⟨B, 5, none⟩ (.bool false)).setCell ⟨B, 6, none⟩ (.bool false)).setCell ⟨B, 7, none⟩ (.bool false)
theorem taken_bst {W : World} {B : Nat} {fd : Bool} {b' l' o' : Int} (h : Bst W B fd b' l' o') (b l o : Int) : Bst (taken W B b l o) B true b l o := by
  have := ((((((Blk.set h 1 (.bool true)).set 2 (.int .i64 b)).set 3 (.int .i64 l)).set 4 (.int .i64 o)).set 5 (.bool false)).set 6 (.bool false)).set 7 (.bool false)
  unfold Bst taken
  simpa using this
theorem taken_turn (W : World) (B : Nat) (b l o : Int) : Turn (fun j => j = B) W (taken W B b l o) := by
  have T : ∀ (X : World) (i : Nat) (v : Value), Turn (fun j => j = B) X (X.setCell ⟨B, i, none⟩ v) := fun X i v => ⟨rfl, rfl, rfl, by rw [size_setCell]; exact Nat.le_refl _, fun j hj hn => heap_setCell_other _ _ _ _ hn⟩
  unfold taken
  exact ((((((T _ _ _).trans (T _ _ _)).trans (T _ _ _)).trans (T _ _ _)).trans (T _ _ _)).trans (T _ _ _)).trans (T _ _ _)
set_option maxHeartbeats 2000000 in
theorem offer_new (B : Nat) (b l o b' l' o' : Int) (w : World) (h : Bst w B false b' l' o') :
    Calls Tryz.prog 294 #[.pointer (some ⟨B, 0, none⟩), .agg #[.int .i64 b, .int .i64 l, .int .i64 o, .bool false, .bool false, .bool false]] w fun e w' => e = .returned (.tuple #[]) ∧ Bst w' B true b l o ∧ Turn (fun j => j = B) w w' := by
  have hlt := Blk.lt h
  obtain ⟨q1, q2, q3, q4, q5, q6, q7, q8, q9⟩ := h.cells
  have HF := hide (show Bst (w.alloc (.cells #[.int .i64 b, .int .i64 l, .int .i64 o, .bool false, .bool false, .bool false] 158)) B false b' l' o' from Blk.alloc h _)
  have HT := hide (turn_alloc (S := fun j => j = B) w (.cells #[.int .i64 b, .int .i64 l, .int .i64 o, .bool false, .bool false, .bool false] 158))
  clear h
  go_enter Tryz.func294, Tryz.ntmps294
  go_wp2
  go_quiet (fail)
  go_wp2
  go_end0
  exact ⟨rfl, taken_bst (W := (w.alloc (.cells #[.int .i64 b, .int .i64 l, .int .i64 o, .bool false, .bool false, .bool false] 158)).drewN _) HF.out b l o, (turn_drew HT.out _).trans (taken_turn _ B b l o)⟩
def bstIf (w : World) (B : Nat) (t : Bool) (b l o b' l' o' : Int) : Prop := Bst w B true (if t then b else b') (if t then l else l') (if t then o else o')
set_option maxHeartbeats 4000000 in
theorem offer_cmp (B : Nat) (b l b' l' : Int) (q q' : Nat) (w : World) (h : Bst w B true b' l' (255 - (q' : Int))) (hq : q < 256) (hq' : q' < 256) (hl : 5 ≤ l) (hl2 : l ≤ 14) (hl' : 5 ≤ l') (hl2' : l' ≤ 14) :
    Calls Tryz.prog 294 #[.pointer (some ⟨B, 0, none⟩), .agg #[.int .i64 b, .int .i64 l, .int .i64 (255 - (q : Int)), .bool false, .bool false, .bool false]] w fun e w' => e = .returned (.tuple #[]) ∧ bstIf w' B (cm l q l' q') b l (255 - (q : Int)) b' l' (255 - (q' : Int)) ∧ Turn (fun j => j = B) w w' := by
  have hlt := Blk.lt h
  have C1 := hide (coversMore_any b l b' l' q q')
  have kb := Blk.new w #[.int .i64 b, .int .i64 l, .int .i64 (255 - (q : Int)), .bool false, .bool false, .bool false] 158
  have hb : Bst (w.alloc (.cells #[.int .i64 b, .int .i64 l, .int .i64 (255 - (q : Int)), .bool false, .bool false, .bool false] 158)) B true b' l' (255 - (q' : Int)) := Blk.alloc h _
  have HT := hide (turn_alloc (S := fun j => j = B) w (.cells #[.int .i64 b, .int .i64 l, .int .i64 (255 - (q : Int)), .bool false, .bool false, .bool false] 158))
  obtain ⟨o, ho⟩ : ∃ o, o = 255 - (q : Int) := ⟨_, rfl⟩
  obtain ⟨o', ho'⟩ : ∃ o', o' = 255 - (q' : Int) := ⟨_, rfl⟩
  rw [← ho] at C1 kb hb HT ⊢
  rw [← ho'] at C1 hb ⊢
  clear ho ho' h
  obtain ⟨q1, q2, q3, q4, q5, q6, q7, q8, q9⟩ := hb.cells
  generalize cm l q l' q' = t at *
  go_enter Tryz.func294, Tryz.ntmps294
  go_wp2
  go_region_held3 (fun w' => w'.cell? ⟨w.heap.size, 0, none⟩ = some (.int .i64 b) ∧ w'.cell? ⟨w.heap.size, 1, none⟩ = some (.int .i64 l) ∧ w'.cell? ⟨w.heap.size, 2, none⟩ = some (.int .i64 o) ∧ w'.cell? ⟨w.heap.size, 3, none⟩ = some (.bool false) ∧ w'.cell? ⟨w.heap.size, 4, none⟩ = some (.bool false) ∧ w'.cell? ⟨w.heap.size, 5, none⟩ = some (.bool false) ∧ w'.cell? ⟨B, 0, none⟩ = some (.func (Fn.func 286) #[] #[]) ∧ w'.cell? ⟨B, 1, none⟩ = some (.bool true) ∧ w'.cell? ⟨B, 2, none⟩ = some (.int .i64 b') ∧ w'.cell? ⟨B, 3, none⟩ = some (.int .i64 l') ∧ w'.cell? ⟨B, 4, none⟩ = some (.int .i64 o') ∧ w'.cell? ⟨B, 5, none⟩ = some (.bool false) ∧ w'.cell? ⟨B, 6, none⟩ = some (.bool false) ∧ w'.cell? ⟨B, 7, none⟩ = some (.bool false)) (go_keep)
    (first
      | (go_at_call 286; refine (C1.out _ hq hq' hl hl2 hl' hl2').mono ?_; rintro e w1 ⟨rfl, hb1⟩; replace hb1 := undrew hb1; obtain ⟨p1, p2, p3, p4, p5, p6, p7⟩ := (kb.below hb1).six'; obtain ⟨q1, q2, q3, q4, q5, q6, q7, q8, q9⟩ := Bst.cells (show Bst w1 B true b' l' o' from Blk.below hb hb1)))
  have hb' : Bst w1 B true b' l' o' := Blk.below hb hb1
  have T1 := HT.out.trans (turn_below (S := fun j => j = B) hb1)
  cases t
  · go_wp2
    go_end0
    exact ⟨rfl, hb', T1⟩
  · go_wp2
    go_end0
    exact ⟨rfl, taken_bst hb' b l o, T1.trans (taken_turn _ B b l o)⟩
def runq (i0 j : Nat) : Nat := 2 ^ (i0 + j) - 2 ^ i0
theorem runq_zero (i0 : Nat) : runq i0 0 = 0 := by simp [runq]
theorem runq_step : ∀ i0, i0 < 8 → ∀ j, j < 8 → i0 + j < 8 → (runq i0 j ||| 2 ^ (i0 + j)) = runq i0 (j + 1) := by decide +kernel
theorem runq_lt : ∀ i0, i0 < 8 → ∀ j, j < 9 → i0 + j ≤ 8 → runq i0 j < 256 := by decide +kernel
theorem runq_pop : ∀ i0, i0 < 8 → ∀ j, j < 9 → i0 + j ≤ 8 → popc (runq i0 j) = j := by decide +kernel
theorem runq_full : ∀ i0, i0 < 8 → ∀ j, j < 9 → i0 + j ≤ 8 → (runq i0 j = 255 ↔ j = 8) := by decide +kernel
abbrev CSt := Option (Int × Int × Nat)
def sCnt : CSt → Int
  | none => 0
  | some (b, l, q) => cnt l q
def StOk (s : CSt) (L : Int) : Prop := ∀ b l q, s = some (b, l, q) → 5 ≤ l ∧ l < L ∧ q < 256 ∧ 0 < cnt l q
def Holds (w : World) (B : Nat) : CSt → Prop
  | none => Bst w B false 0 0 0
  | some (b, l, q) => Bst w B true b l (255 - (q : Int))
def keep (s : CSt) (b L : Int) (q : Nat) : CSt := if sCnt s < cnt L q then some (b, L, q) else s
theorem cnt_run (l : Int) (P : Int) (hP : (2:Int)^(l - 3).toNat = P) (i0 j : Nat) (h0 : i0 < 8) (h : i0 + j ≤ 8) : cnt l (runq i0 j) = j * P := by
  unfold cnt
  rw [hP, runq_pop i0 h0 j (by omega) h]
theorem offer_none (B : Nat) (b l : Int) (q : Nat) (w : World) (h : Holds w B none) :
    Calls Tryz.prog 294 #[.pointer (some ⟨B, 0, none⟩), .agg #[.int .i64 b, .int .i64 l, .int .i64 (255 - (q : Int)), .bool false, .bool false, .bool false]] w fun e w' => e = .returned (.tuple #[]) ∧ Holds w' B (some (b, l, q)) ∧ Turn (fun j => j = B) w w' :=
  offer_new B b l (255 - (q : Int)) 0 0 0 w h
theorem offer_some (B : Nat) (b l b' l' : Int) (q q' : Nat) (w : World) (h : Holds w B (some (b', l', q'))) (hq : q < 256) (hq' : q' < 256) (hl : 5 ≤ l) (hl2 : l ≤ 14) (hl' : 5 ≤ l') (hl2' : l' ≤ 14) :
    Calls Tryz.prog 294 #[.pointer (some ⟨B, 0, none⟩), .agg #[.int .i64 b, .int .i64 l, .int .i64 (255 - (q : Int)), .bool false, .bool false, .bool false]] w fun e w' => e = .returned (.tuple #[]) ∧ Holds w' B (if cm l q l' q' then some (b, l, q) else some (b', l', q')) ∧ Turn (fun j => j = B) w w' :=
  (offer_cmp B b l b' l' q q' w h hq hq' hl hl2 hl' hl2').mono fun e w' he => ⟨he.1, by
    have := he.2.1
    cases hc : cm l q l' q'
    · rw [hc] at this; exact this
    · rw [hc] at this; exact this, he.2.2⟩
def stJ (s : CSt) (b l : Int) (i0 j : Nat) : CSt := if 8 ≤ l ∨ j = 8 then keep s b l (runq i0 j) else s
theorem stJ_zero (s : CSt) (b l P : Int) (hP : (2:Int)^(l - 3).toNat = P) (i0 : Nat) (h0 : i0 < 8) (hs : 0 ≤ sCnt s) : stJ s b l i0 0 = s := by
  unfold stJ keep
  rw [cnt_run l P hP i0 0 h0 (by omega)]
  simp
  omega
theorem offer_step (B : Nat) (s : CSt) (b l P : Int) (hP : (2:Int)^(l - 3).toNat = P) (hP0 : 0 < P) (i0 j : Nat) (w : World) (h0 : i0 < 8) (hj : i0 + j < 8) (hl : 5 ≤ l) (hl2 : l ≤ 14) (hs : StOk s l) (hs0 : 0 ≤ sCnt s) (h8 : 8 ≤ l ∨ j + 1 = 8) (h : Holds w B (stJ s b l i0 j)) :
    Calls Tryz.prog 294 #[.pointer (some ⟨B, 0, none⟩), .agg #[.int .i64 b, .int .i64 l, .int .i64 (255 - (runq i0 (j + 1) : Int)), .bool false, .bool false, .bool false]] w fun e w' => e = .returned (.tuple #[]) ∧ Holds w' B (stJ s b l i0 (j + 1)) ∧ Turn (fun j => j = B) w w' := by
  have hq1 := runq_lt i0 h0 (j + 1) (by omega) (by omega)
  have hc1 := cnt_run l P hP i0 (j + 1) h0 (by omega)
  have hc0 := cnt_run l P hP i0 j h0 (by omega)
  have hmul : ((j + 1 : Nat) : Int) * P = (j : Int) * P + P := by rw [Int.natCast_add, Int.add_mul]; simp
  have hjP : 0 ≤ (j : Int) * P := Int.mul_nonneg (by omega) (by omega)
  have e1 : stJ s b l i0 (j + 1) = keep s b l (runq i0 (j + 1)) := by unfold stJ; rw [if_pos h8]
  rw [e1]
  by_cases hk : 8 ≤ l ∧ sCnt s < cnt l (runq i0 j)
  · have e0 : stJ s b l i0 j = some (b, l, runq i0 j) := by unfold stJ keep; rw [if_pos (Or.inl hk.1), if_pos hk.2]
    rw [e0] at h
    refine (offer_some B b l b l (runq i0 (j + 1)) (runq i0 j) w h hq1 (runq_lt i0 h0 j (by omega) (by omega)) hl hl2 hl hl2).mono fun e w' he => ?_
    have hcm : cm l (runq i0 (j + 1)) l (runq i0 j) = true := by unfold cm; rw [hc1, hc0, hmul]; simp; omega
    have ek : keep s b l (runq i0 (j + 1)) = some (b, l, runq i0 (j + 1)) := by unfold keep; rw [if_pos (by rw [hc1, hmul]; rw [hc0] at hk; omega)]
    rw [hcm] at he
    rw [ek]
    exact he
  · have e0 : stJ s b l i0 j = s := by
      unfold stJ
      by_cases h8' : 8 ≤ l
      · rw [if_pos (Or.inl h8')]
        unfold keep
        rw [if_neg (fun e => hk ⟨h8', e⟩)]
      · rw [if_neg (by omega)]
    rw [e0] at h
    match s, h, hs, hs0, hk with
    | none, h, _, _, _ =>
      have ek : keep none b l (runq i0 (j + 1)) = some (b, l, runq i0 (j + 1)) := by unfold keep; rw [if_pos (by rw [hc1, hmul]; simp [sCnt]; omega)]
      rw [ek]
      exact offer_none B b l (runq i0 (j + 1)) w h
    | some (b', l', q'), h, hs, hs0, hk =>
      obtain ⟨g1, g2, g3, g4⟩ := hs b' l' q' rfl
      refine (offer_some B b l b' l' (runq i0 (j + 1)) q' w h hq1 g3 hl hl2 g1 (by omega)).mono fun e w' he => ?_
      have hcm : cm l (runq i0 (j + 1)) l' q' = decide (cnt l' q' < cnt l (runq i0 (j + 1))) := by
        unfold cm
        rw [Bool.eq_iff_iff]
        simp
        intro _ h
        omega
      rw [hcm] at he
      by_cases hlt : cnt l' q' < cnt l (runq i0 (j + 1))
      · have ek : keep (some (b', l', q')) b l (runq i0 (j + 1)) = some (b, l, runq i0 (j + 1)) := by
          show (if cnt l' q' < cnt l (runq i0 (j + 1)) then some (b, l, runq i0 (j + 1)) else some (b', l', q')) = _
          rw [if_pos hlt]
        rw [ek]
        simp only [decide_eq_true hlt, if_true] at he
        exact he
      · have ek : keep (some (b', l', q')) b l (runq i0 (j + 1)) = some (b', l', q') := by
          show (if cnt l' q' < cnt l (runq i0 (j + 1)) then some (b, l, runq i0 (j + 1)) else some (b', l', q')) = _
          rw [if_neg hlt]
        rw [ek]
        simp only [decide_eq_false hlt] at he
        exact he
theorem holds_turn {S : Nat → Prop} {w w' : World} {B : Nat} {s : CSt} (t : Turn S w w') (h : Holds w B s) (hk : ¬ S B) : Holds w' B s := by
  match s, h with
  | none, h => exact turn_blk t h hk
  | some (b, l, q), h => exact turn_blk t h hk
theorem base_ok (a l N : Int) (hl : 5 ≤ l) (hl2 : l ≤ 14) (hN : (2:Int)^l.toNat = N) (h0 : 0 ≤ a) (h1 : a < 262144) : 0 ≤ a - a % N ∧ a - a % N ≤ 262144 - N ∧ (a - a % N) % N = 0 ∧ 0 ≤ a % N ∧ a % N < N := by
  have : l = 5 ∨ l = 6 ∨ l = 7 ∨ l = 8 ∨ l = 9 ∨ l = 10 ∨ l = 11 ∨ l = 12 ∨ l = 13 ∨ l = 14 := by omega
  rcases this with rfl | rfl | rfl | rfl | rfl | rfl | rfl | rfl | rfl | rfl <;> (subst hN; simp; omega)
theorem pow_split (l : Int) (hl : 5 ≤ l) : (2:Int)^l.toNat = 8 * (2:Int)^(l - 3).toNat := by
  have : l.toNat = (l - 3).toNat + 3 := by omega
  rw [this, Int.pow_add]
  omega
theorem pow_four (l : Int) (hl : 5 ≤ l) (hl2 : l ≤ 14) : 4 ≤ (2:Int)^(l - 3).toNat ∧ (2:Int)^(l - 3).toNat ≤ 2048 := by
  have : l = 5 ∨ l = 6 ∨ l = 7 ∨ l = 8 ∨ l = 9 ∨ l = 10 ∨ l = 11 ∨ l = 12 ∨ l = 13 ∨ l = 14 := by omega
  rcases this with rfl | rfl | rfl | rfl | rfl | rfl | rfl | rfl | rfl | rfl <;> simp
theorem not_run (q : Nat) (h : q < 256) : bits BinOp.xor IntKind.u8 IntKind.u8.max (q : Int) = 255 - (q : Int) := by
  have := cv_xor (255 - q) (by omega)
  have e : (255 - ((255 - q : Nat) : Int)) = (q : Int) := by omega
  rw [e] at this
  rw [this]
  omega
def BehindP (s : CSt) (a en l P b : Int) (i0 : Nat) (s' : CSt) : Prop :=
  (a % P ≠ 0 ∧ s' = s) ∨
  (a % P = 0 ∧ ∃ j : Nat, i0 + j ≤ 8 ∧ (b + ((i0 + j : Nat) : Int) * P ≤ en ∨ j = 0) ∧ (i0 + j = 8 ∨ en < b + (((i0 + j : Nat) : Int) + 1) * P) ∧ s' = stJ s b l i0 j)
theorem cv_in {S : Nat → Prop} {a w w' : World} (h : Turn S a w) (hb : Below w.heap.size w w') : Turn S a w' := h.trans (turn_below hb)
set_option maxHeartbeats 2000000 in
theorem offerRuns_any (B : Nat) (s : CSt) (a en l P N b : Int) (i0 : Nat) (w : World) (hl : 5 ≤ l) (hl2 : l ≤ 14) (ha : 0 ≤ a) (hae : a < en) (hen : en ≤ 262144) (hs : StOk s l) (hs0 : 0 ≤ sCnt s) (hP : (2:Int)^(l - 3).toNat = P) (hN : (2:Int)^l.toNat = N) (hb : a - a % N = b) (hi : (a - b) / P = (i0 : Int)) (h : Holds w B s) :
    Calls Tryz.prog 287 #[.pointer (some ⟨B, 0, none⟩), .int .i64 a, .int .i64 en, .int .i64 l] w fun e w' => e = .returned (.tuple #[]) ∧ (∃ s', Holds w' B s' ∧ BehindP s a en l P b i0 s') ∧ Turn (fun j => j = B) w w' := by
  obtain ⟨p4, p5⟩ := pow_four l hl hl2
  obtain ⟨b0, b1, b2, b3, b4⟩ := base_ok a l N hl hl2 hN ha (by omega)
  have hNP := pow_split l hl
  rw [hP, hN] at hNP
  have hN1 : N ≤ 16384 := by rw [hP] at p5; omega
  have hN0 : 0 < N := by rw [hP] at p4; omega
  rw [hb] at b0 b1 b2
  rw [hP] at p4 p5
  have hP' := hide hP
  have hN' := hide hN
  have hab : a - b = a % N := by omega
  have hi8 : i0 < 8 := by
    have : (a - b) / P < 8 := by
      apply Int.ediv_lt_of_lt_mul (by omega)
      omega
    omega
  by_cases hm : a % P = 0
  · have hab2 : a = b + (i0 : Int) * P := by
      have e1 : (a % N) % P = 0 := by
        rw [hNP, Int.emod_emod_of_dvd a (Int.dvd_mul_left 8 P)]
        exact hm
      have e2 := Int.mul_ediv_add_emod (a - b) P
      rw [hi, hab, e1, Int.mul_comm] at e2
      omega
    have HK := hide (stJ_zero s b l P hP i0 hi8 hs0)
    have HS := hide hs
    have HNP := hide hNP
    have HAB := hide hab2
    have HAB1 := hide hab
    have HH := hide h
    have HB2 := hide b2
    have HM := hide hm
    clear hNP hs hab2 hab h b2
    go_enter Tryz.func287, Tryz.ntmps287
    go_wp2
    go_loopw [10, 11] (fun r i wr => ∃ j : Nat, i0 + j ≤ 8 ∧ r = .int .u8 (runq i0 j : Nat) ∧ i = .int .i64 ((i0 + j : Nat) : Int) ∧ (b + ((i0 + j : Nat) : Int) * P ≤ en ∨ j = 0) ∧ Holds wr B (stJ s b l i0 j) ∧ Turn (fun j => j = B) w wr) (fun _ i _ => 8 - (intOf i).toNat)
    case atStart => exact ⟨0, by omega, by rw [runq_zero]; rfl, by rw [hi]; rfl, Or.inr rfl, by rw [HK.out]; exact HH.out, Turn.refl _ _⟩
    case round =>
      obtain ⟨j, hj, rfl, rfl, hq, hH, hT⟩ := hrel
      obtain ⟨k, hk⟩ : ∃ k : Nat, k = i0 + j := ⟨_, rfl⟩
      have hkP : ((k : Int) + 1) * P = (k : Int) * P + P := by rw [Int.add_mul]; simp
      have hkP0 : 0 ≤ (k : Int) * P := Int.mul_nonneg (by omega) (by omega)
      have hkP1 : (k : Int) * P ≤ 8 * P := Int.mul_le_mul_of_nonneg_right (by omega) (by omega)
      have hm0 : 0 ≤ ((k : Int) + 1) * P := by omega
      have hm1 : ((k : Int) + 1) * P ≤ 18432 := by omega
      rw [← hk] at hj hq ⊢
      have HKP := hide hkP
      have HQ := hide hq
      have HHH := hide hH
      have HT := hide hT
      have HKK := hide hk
      have HI := hide hi
      have HBB := hide hb
      clear hkP hkP0 hkP1 hq hH hT hk hi hb hP hN b3 b4 hm
      by_cases h8 : k < 8
      · by_cases hle : b + ((k : Int) + 1) * P ≤ en
        · have HLE := hide hle
          have hq0 := runq_lt i0 hi8 j (by have := HKK.out; omega) (by have := HKK.out; omega)
          have hq1 := runq_lt i0 hi8 (j + 1) (by have := HKK.out; omega) (by have := HKK.out; omega)
          have HST := hide (runq_step i0 hi8 j (by have := HKK.out; omega) (by have := HKK.out; omega))
          rw [← HKK.out] at HST
          have HNR := hide (not_run (runq i0 (j + 1)) hq1)
          have HROK := hide (show rok b l (255 - (runq i0 (j + 1) : Int)) = decide (8 ≤ l ∨ j + 1 = 8) from by
            have hf := runq_full i0 hi8 (j + 1) (by have := HKK.out; omega) (by have := HKK.out; omega)
            unfold rok
            rw [hN'.out]
            have := HB2.out
            rw [Bool.eq_iff_iff]
            simp only [decide_eq_true_eq]
            constructor
            · rintro ⟨_, _, _, _, h | h, _⟩
              · exact Or.inl h
              · exact Or.inr (hf.1 (by omega))
            · intro h
              refine ⟨hl, hl2, by omega, by omega, ?_, by omega, by omega, HB2.out⟩
              rcases h with h | h
              · exact Or.inl h
              · exact Or.inr (by have := hf.2 h; omega))
          go_wp2_with fail
          refine (with_any (runq i0 j) k _ hq0 h8).mono ?_
          rintro e w1 ⟨rfl, rfl⟩
          rw [HST.out]
          obtain ⟨q, hq⟩ : ∃ q, q = runq i0 (j + 1) := ⟨_, rfl⟩
          rw [← hq] at HNR HROK hq1 ⊢
          have HQQ := hide hq
          clear hq
          have hwf : (Lit.int .i64 b).wf = true := by simp [Lit.wf, IntKind.min, IntKind.max, IntKind.bits, IntKind.signed]; omega
          go_wp2_with fail
          rw [HNR.out]
          rw [show wrap64 (255 - (q : Int)) = 255 - (q : Int) from by unfold wrap64; omega]
          refine (iRegionOk_any b l (255 - (q : Int)) false false false _ hwf).mono ?_
          rintro e w2 ⟨rfl, hb2⟩
          obtain ⟨q1, q2, q3, q4, q5, q6, q7⟩ := (Blk.below (Blk.new wr #[.int .i64 b, .int .i64 l, .int .i64 (255 - (q : Int)), .bool false, .bool false, .bool false] 158) hb2).six'
          have HT2 := hide (cv_in (cv_in HT.out ((Below.refl _ _).alloc (Nat.le_refl _) (.cells #[.int .i64 b, .int .i64 l, .int .i64 (255 - (q : Int)), .bool false, .bool false, .bool false] 158))) hb2)
          have HH2 := hide (holds_turn (S := fun _ => False) (turn_below hb2) (holds_turn (S := fun _ => False) (turn_alloc wr (.cells #[.int .i64 b, .int .i64 l, .int .i64 (255 - (q : Int)), .bool false, .bool false, .bool false] 158)) HHH.out id) id)
          rw [HROK.out]
          clear hb2
          by_cases hc : 8 ≤ l ∨ j + 1 = 8
          · simp only [hc, decide_true]
            have HOF := hide (offer_step B s b l P hP'.out (by omega) i0 j w2 hi8 (by have := HKK.out; omega) hl hl2 HS.out hs0 hc HH2.out)
            rw [← HQQ.out] at HOF
            go_wp2_with fail
            refine HOF.out.mono ?_
            rintro e w3 ⟨rfl, hH3, hT3⟩
            have HH3 := hide hH3
            have HT3 := hide (HT2.out.trans hT3)
            clear hH3 hT3
            go_wp2_with fail
            go_roundw
            case rel => exact ⟨j + 1, by have := HKK.out; omega, by rw [HQQ.out], by rw [HKK.out]; go_num, Or.inl (by have := HLE.out; have e := HKK.out; rw [show ((i0 + (j + 1) : Nat) : Int) = (k : Int) + 1 by omega]; exact this), HH3.out, HT3.out⟩
            case measure => simp [intOf]; omega
          · simp only [hc, decide_false]
            have HH3 := hide (show Holds w2 B (stJ s b l i0 (j + 1)) from by
              have e1 : stJ s b l i0 (j + 1) = s := by unfold stJ; rw [if_neg hc]
              have e2 : stJ s b l i0 j = s := by unfold stJ; rw [if_neg (by have := HKK.out; omega)]
              rw [e1, ← e2]
              exact HH2.out)
            go_wp2_with fail
            go_roundw
            case rel => exact ⟨j + 1, by have := HKK.out; omega, by rw [HQQ.out], by rw [HKK.out]; go_num, Or.inl (by have := HLE.out; have e := HKK.out; rw [show ((i0 + (j + 1) : Nat) : Int) = (k : Int) + 1 by omega]; exact this), HH3.out, HT2.out⟩
            case measure => simp [intOf]; omega
        · have HLE := hide hle
          go_wp2
          go_end0
          exact ⟨rfl, ⟨_, HHH.out, Or.inr ⟨HM.out, j, by have := HKK.out; omega, by rw [← HKK.out]; exact HQ.out, by rw [← HKK.out]; exact Or.inr (by have := HLE.out; omega), rfl⟩⟩, HT.out⟩
      · go_wp2
        go_end0
        exact ⟨rfl, ⟨_, HHH.out, Or.inr ⟨HM.out, j, by have := HKK.out; omega, by rw [← HKK.out]; exact HQ.out, Or.inl (by have := HKK.out; omega), rfl⟩⟩, HT.out⟩
  · have hm' : (a % P != 0) = true := by simpa using hm
    have HN := hide hm
    clear hm
    go_enter Tryz.func287, Tryz.ntmps287
    go_wp2
    (try simp only [Exit.inBlock, Exit.then]); refine bodyPost_ret (results_none rfl _ _ _) rfl ?_
    exact ⟨rfl, ⟨s, h, Or.inl ⟨HN.out, rfl⟩⟩, Turn.refl _ _⟩
def baseOf (a l : Int) : Int := a - a % (2:Int)^l.toNat
def i0Of (a l : Int) : Nat := ((a % (2:Int)^l.toNat) / (2:Int)^(l - 3).toNat).toNat
def jOf (a en l : Int) : Nat := min (8 - i0Of a l) ((en - a) / (2:Int)^(l - 3).toNat).toNat
def qOf (a en l : Int) : Nat :=
  if l < 8 then (if a % (2:Int)^l.toNat = 0 ∧ a + (2:Int)^l.toNat ≤ en then 255 else 0)
  else if a % (2:Int)^(l - 3).toNat = 0 then runq (i0Of a l) (jOf a en l) else 0
theorem cnt_zero (l : Int) : cnt l 0 = 0 := by simp [cnt, popc]
theorem keep_zero (s : CSt) (b l : Int) (h : 0 ≤ sCnt s) : keep s b l 0 = s := by
  unfold keep
  rw [cnt_zero, if_neg (by omega)]
theorem parts (a l P N : Int) (hl : 5 ≤ l) (hl2 : l ≤ 14) (hP : (2:Int)^(l - 3).toNat = P) (hN : (2:Int)^l.toNat = N) (ha : 0 ≤ a) (ha2 : a < 262144) :
    N = 8 * P ∧ 4 ≤ P ∧ P ≤ 2048 ∧ (a % N) % P = a % P ∧ i0Of a l < 8 ∧ (a % P = 0 → a % N = (i0Of a l : Int) * P) ∧ (a - baseOf a l) / P = (i0Of a l : Int) := by
  obtain ⟨p4, p5⟩ := pow_four l hl hl2
  have hNP := pow_split l hl
  rw [hP, hN] at hNP
  rw [hP] at p4 p5
  obtain ⟨b0, b1, b2, b3, b4⟩ := base_ok a l N hl hl2 hN ha ha2
  have hd : (a % N) % P = a % P := by rw [hNP, Int.emod_emod_of_dvd a (Int.dvd_mul_left 8 P)]
  have h0 : 0 ≤ (a % N) / P := Int.ediv_nonneg b3 (by omega)
  have h8 : (a % N) / P < 8 := Int.ediv_lt_of_lt_mul (by omega) (by omega)
  have hi : ((i0Of a l : Nat) : Int) = (a % N) / P := by unfold i0Of; rw [hP, hN]; omega
  refine ⟨hNP, p4, p5, hd, by omega, fun hm => ?_, ?_⟩
  · have e2 := Int.mul_ediv_add_emod (a % N) P
    rw [hd, hm, ← hi, Int.mul_comm] at e2
    omega
  · unfold baseOf
    rw [hN, hi]
    congr 1
    omega
theorem j_is (a en l P N : Int) (hl : 5 ≤ l) (hl2 : l ≤ 14) (hP : (2:Int)^(l - 3).toNat = P) (hN : (2:Int)^l.toNat = N) (ha : 0 ≤ a) (hae : a < en) (hen : en ≤ 262144) (hm : a % P = 0) (j : Nat) (h1 : i0Of a l + j ≤ 8)
    (h2 : baseOf a l + ((i0Of a l + j : Nat) : Int) * P ≤ en ∨ j = 0) (h3 : i0Of a l + j = 8 ∨ en < baseOf a l + (((i0Of a l + j : Nat) : Int) + 1) * P) : j = jOf a en l ∧ a + (j : Int) * P ≤ en := by
  obtain ⟨g1, g2, g3, g4, g5, g6, g7⟩ := parts a l P N hl hl2 hP hN ha (by omega)
  have hb : baseOf a l = a - a % N := by unfold baseOf; rw [hN]
  have e1 : ((i0Of a l + j : Nat) : Int) * P = (i0Of a l : Int) * P + (j : Int) * P := by rw [Int.natCast_add, Int.add_mul]
  have e2 : (((i0Of a l + j : Nat) : Int) + 1) * P = (i0Of a l : Int) * P + (j : Int) * P + P := by rw [Int.add_mul, e1]; omega
  rw [hb, g6 hm, e1] at h2
  rw [hb, g6 hm, e2] at h3
  have hjP : a + (j : Int) * P ≤ en := by
    rcases h2 with h | h
    · omega
    · subst h; simp; omega
  have hd : (j : Int) ≤ (en - a) / P := Int.le_ediv_of_mul_le (by omega) (by omega)
  refine ⟨?_, hjP⟩
  unfold jOf
  rw [hP]
  rcases h3 with h | h
  · omega
  · have : (en - a) / P < (j : Int) + 1 := Int.ediv_lt_of_lt_mul (by omega) (by rw [Int.add_mul]; omega)
    omega
theorem behind_keep (s s' : CSt) (a en l P N : Int) (hl : 5 ≤ l) (hl2 : l ≤ 14) (hP : (2:Int)^(l - 3).toNat = P) (hN : (2:Int)^l.toNat = N) (ha : 0 ≤ a) (hae : a < en) (hen : en ≤ 262144) (hs : 0 ≤ sCnt s)
    (h : BehindP s a en l P (baseOf a l) (i0Of a l) s') : s' = keep s (baseOf a l) l (qOf a en l) := by
  obtain ⟨g1, g2, g3, g4, g5, g6, g7⟩ := parts a l P N hl hl2 hP hN ha (by omega)
  rcases h with ⟨hm, rfl⟩ | ⟨hm, j, h1, h2, h3, rfl⟩
  · have hq : qOf a en l = 0 := by
      unfold qOf
      rw [hP, hN]
      by_cases h8 : l < 8
      · rw [if_pos h8, if_neg]
        rintro ⟨h, _⟩
        rw [h] at g4
        simp at g4
        exact hm g4.symm
      · rw [if_neg h8, if_neg hm]
    rw [hq, keep_zero _ _ _ hs]
  · obtain ⟨hj, hjP⟩ := j_is a en l P N hl hl2 hP hN ha hae hen hm j h1 h2 h3
    have g6' := g6 hm
    unfold stJ qOf
    rw [hP, hN]
    by_cases h8 : l < 8
    · rw [if_pos h8]
      by_cases h88 : j = 8
      · have : i0Of a l = 0 := by omega
        rw [this] at g6'
        simp at g6'
        subst h88
        rw [if_pos (Or.inr rfl), if_pos ⟨g6', by omega⟩, this]
        rfl
      · rw [if_neg (by omega), if_neg, keep_zero _ _ _ hs]
        rintro ⟨k1, k2⟩
        rw [k1] at g6'
        have hi0 : i0Of a l = 0 := by
          have : (i0Of a l : Int) = 0 := by
            rcases Int.mul_eq_zero.1 g6'.symm with h | h
            · exact h
            · omega
          omega
        have hd : (8 : Int) ≤ (en - a) / P := Int.le_ediv_of_mul_le (by omega) (by omega)
        unfold jOf at hj
        rw [hP] at hj
        omega
    · rw [if_pos (Or.inl (by omega)), if_neg h8, if_pos hm, ← hj]
def cvFold (a en : Int) (n : Nat) : CSt :=
  if h : n = 0 then none else keep (cvFold a en (n - 1)) (baseOf a (5 + ((n - 1 : Nat) : Int))) (5 + ((n - 1 : Nat) : Int)) (qOf a en (5 + ((n - 1 : Nat) : Int)))
theorem cvFold_none (a en : Int) : cvFold a en 0 = none := by rw [cvFold, dif_pos rfl]
theorem cvFold_succ (a en : Int) (n : Nat) : cvFold a en (n + 1) = keep (cvFold a en n) (baseOf a (5 + n)) (5 + n) (qOf a en (5 + n)) := by
  rw [cvFold, dif_neg (by omega)]
  rfl
theorem cnt_nonneg (l : Int) (q : Nat) : 0 ≤ cnt l q := by
  unfold cnt
  exact Int.mul_nonneg (by omega) (Int.le_of_lt (pow_pos _))
theorem sCnt_nonneg (s : CSt) : 0 ≤ sCnt s := by
  match s with
  | none => exact Int.le_refl _
  | some (b, l, q) => exact cnt_nonneg l q
theorem qOf_lt (a en l : Int) (hl : 5 ≤ l) (hl2 : l ≤ 14) (ha : 0 ≤ a) (ha2 : a < 262144) : qOf a en l < 256 := by
  obtain ⟨g1, g2, g3, g4, g5, g6, g7⟩ := parts a l _ _ hl hl2 rfl rfl ha ha2
  unfold qOf
  split
  · split <;> omega
  · split
    · apply runq_lt _ g5 <;> (unfold jOf; omega)
    · omega
theorem cvFold_ok (a en : Int) (ha : 0 ≤ a) (ha2 : a < 262144) : ∀ n : Nat, n ≤ 10 → StOk (cvFold a en n) (5 + n)
  | 0, _ => fun b l q h => by rw [cvFold_none] at h; cases h
  | n + 1, hn => by
    have ih := cvFold_ok a en ha ha2 n (by omega)
    intro b l q h
    rw [cvFold_succ] at h
    unfold keep at h
    split at h
    · rename_i hlt
      simp at h
      obtain ⟨rfl, rfl, rfl⟩ := h
      refine ⟨by omega, by omega, qOf_lt a en _ (by omega) (by omega) ha ha2, ?_⟩
      have := sCnt_nonneg (cvFold a en n)
      omega
    · obtain ⟨k1, k2, k3, k4⟩ := ih b l q h
      exact ⟨k1, by omega, k3, k4⟩
set_option maxHeartbeats 2000000 in
theorem widest_any (a en : Int) (w : World) (ha : 0 ≤ a) (hae : a < en) (hen : en ≤ 262144) (b l : Int) (q : Nat) (hF : cvFold a en 10 = some (b, l, q)) :
    Calls Tryz.prog 282 #[.int .i64 a, .int .i64 en] w fun e w' => e = .returned (.agg #[.int .i64 b, .int .i64 l, .int .i64 (255 - (q : Int)), .bool false, .bool false, .bool false]) ∧ Below w.heap.size w w' := by
  have HF := hide hF
  clear hF
  have HA := hide (And.intro ha (And.intro hae hen))
  go_enter Tryz.func282, Tryz.ntmps282
  go_wp2
  go_loopw [6] (fun x wr => ∃ n : Nat, n ≤ 10 ∧ x = .int .i64 (5 + (n : Int)) ∧ Holds wr (w.heap.size + 1) (cvFold a en n) ∧ Blk wr w.heap.size #[.int .i64 0, .int .i64 0, .int .i64 0, .bool false, .bool false, .bool false] 158 ∧ Below w.heap.size w wr) (fun x _ => 15 - (intOf x).toNat)
  case atStart =>
    refine ⟨0, by omega, rfl, ?_, ?_, ?_⟩
    · rw [cvFold_none]
      have := Blk.new (w.alloc (.cells #[.int .i64 0, .int .i64 0, .int .i64 0, .bool false, .bool false, .bool false] 158)) #[.func (Fn.func 286) #[] #[], .bool false, .int .i64 0, .int .i64 0, .int .i64 0, .bool false, .bool false, .bool false] 308
      simp only [World.size_alloc] at this
      exact this
    · exact (Blk.new w _ _).alloc _
    · exact ((Below.refl _ _).alloc (Nat.le_refl _) _).alloc (by simp) _
  case round =>
    obtain ⟨n, hn, rfl, hH, hZ, hB⟩ := hrel
    have HH := hide hH
    have HB := hide hB
    have HZ := hide hZ
    clear hH hB hZ
    by_cases hlt : n < 10
    · have hsz := HB.out.size
      have HC := hide (offerRuns_any (w.heap.size + 1) (cvFold a en n) a en (5 + (n : Int)) _ _ _ (i0Of a (5 + (n : Int))) wr (by omega) (by omega) ha hae hen (cvFold_ok a en ha (by omega) n (by omega)) (sCnt_nonneg _) rfl rfl rfl (parts a (5 + (n : Int)) _ _ (by omega) (by omega) rfl rfl ha (by omega)).2.2.2.2.2.2 HH.out)
      go_wp2_with fail
      refine HC.out.mono ?_
      rintro e w1 ⟨rfl, ⟨s', hs', hb'⟩, t1⟩
      have hk := behind_keep _ _ a en (5 + (n : Int)) _ _ (by omega) (by omega) rfl rfl ha hae hen (sCnt_nonneg _) hb'
      have H1 := hide (show Holds w1 (w.heap.size + 1) (cvFold a en (n + 1)) from by rw [hk] at hs'; rw [cvFold_succ]; exact hs')
      have Z1 := hide (turn_blk t1 HZ.out (by omega))
      have B1 := hide (below_turn HB.out t1 (fun k e => by omega) hsz)
      clear hk hs' hb' t1 HC
      go_wp2_with fail
      go_roundw
      case rel => exact ⟨n + 1, by omega, by go_num, H1.out, Z1.out, B1.out⟩
      case measure => simp [intOf]; omega
    · have hn10 : n = 10 := by omega
      subst hn10
      rw [HF.out] at HH
      have HC := hide (Bst.cells HH.out)
      obtain ⟨q1, q2, q3, q4, q5, q6, q7, q8, q9⟩ := HC.out
      obtain ⟨p1, p2, p3, p4, p5, p6, p7⟩ := HZ.out.six'
      have HK := hide (Blk.set (Blk.set (Blk.set (Blk.set (Blk.set (Blk.set HZ.out 0 (.int .i64 b)) 1 (.int .i64 l)) 2 (.int .i64 (255 - (q : Int)))) 3 (.bool false)) 4 (.bool false)) 5 (.bool false))
      go_wp2
      refine bodyPost_ret (results_cell_row rfl _ _ w.heap.size 158 #[.int .i64 b, .int .i64 l, .int .i64 (255 - (q : Int)), .bool false, .bool false, .bool false] (0, 0) _ rfl (by exact HK.out) Tryz.underlying158 rfl (by kernel_rfl)) rfl ⟨rfl, ?_⟩
      exact (((((HB.out.setCell (Nat.le_refl _) _).setCell (Nat.le_refl _) _).setCell (Nat.le_refl _) _).setCell (Nat.le_refl _) _).setCell (Nat.le_refl _) _).setCell (Nat.le_refl _) _
def cells6 (g : Rg) : List Value := [.int .i64 g.1, .int .i64 g.2.1, .int .i64 g.2.2.1, .bool g.2.2.2.1, .bool g.2.2.2.2.1, .bool g.2.2.2.2.2]
def flat (rs : List Rg) : List Value := rs.flatMap cells6
theorem flat6_len : ∀ rs : List Rg, (flat rs).length = rs.length * 6
  | [] => rfl
  | g :: rs => by simp only [flat, List.flatMap_cons, List.length_append]; have := flat6_len rs; simp only [flat] at this; rw [this]; simp [cells6]; omega
theorem flat6_get : ∀ (rs : List Rg) (i j : Nat), i < rs.length → j < 6 → (flat rs)[i * 6 + j]? = (cells6 (rs.getD i z6))[j]?
  | [], i, j, h, _ => absurd h (by simp)
  | g :: rs, 0, j, _, hj => by
    simp only [flat, List.flatMap_cons]
    rw [List.getElem?_append_left (by simp [cells6]; omega)]
    simp
  | g :: rs, i + 1, j, h, hj => by
    have hh := flat6_get rs i j (by simpa using h) hj
    simp only [flat, List.flatMap_cons] at hh ⊢
    rw [List.getElem?_append_right (by simp [cells6]; omega)]
    have e : (i + 1) * 6 + j - (cells6 g).length = i * 6 + j := by simp [cells6]; omega
    rw [e, hh]
    simp
def ORg (w : World) (base : Nat) (v : Value) (rs : List Rg) : Prop := w.ownsRow base 158 6 v rs.length (flat rs) ∧ ∀ g ∈ rs, wfi g.1 ∧ wfi g.2.1 ∧ wfi g.2.2.1
theorem or_rs {w : World} {base n cap : Nat} {a : Option Addr} {rs : List Rg} (h : ORg w base (.slice a n cap) rs) : RS w a n cap rs := by
  obtain ⟨hl, ⟨h0, h0'⟩ | ⟨g, cap', cur, hv, hg, hh, h1, h2, h3, h4⟩⟩ := h.1
  · simp at h0
    obtain ⟨rfl, rfl, rfl⟩ := h0
    exact ⟨h0', Nat.zero_le _, h.2, fun hn => absurd rfl hn, Nat.le_refl _⟩
  · simp at hv
    obtain ⟨rfl, rfl, rfl⟩ := hv
    refine ⟨rfl, by omega, h.2, fun hn => ⟨g, 0, rfl, fun i hi => ?_⟩, h1⟩
    have hc : ∀ j, j < 6 → w.cell? ⟨g, 0 + i * 6 + j, none⟩ = (cells6 (rs.getD i z6))[j]? := by
      intro j hj
      rw [Blk.cell (w := w) hh]
      have : cur.toList[0 + i * 6 + j]? = (flat rs)[i * 6 + j]? := by
        rw [← h4, List.getElem?_take, if_pos (by omega), Nat.zero_add]
      rw [Array.getElem?_toList] at this
      rw [this, flat6_get rs i j hi hj]
    exact ⟨hc 0 (by omega), hc 1 (by omega), hc 2 (by omega), hc 3 (by omega), hc 4 (by omega), hc 5 (by omega)⟩
theorem turn_or {S : Nat → Prop} {base : Nat} {w w' : World} {v : Value} {rs : List Rg} (t : Turn S w w') (h : ORg w base v rs) (hk : ∀ k, base ≤ k → ¬ S k) : ORg w' base v rs := by
  refine ⟨?_, h.2⟩
  obtain ⟨hl, h0 | ⟨g', cap, cur, hv, hg, hh, h1, h2, h3, h4⟩⟩ := h.1
  · exact ⟨hl, .inl h0⟩
  · exact ⟨hl, .inr ⟨g', cap, cur, hv, hg, turn_blk t hh (hk g' hg), h1, h2, h3, h4⟩⟩
theorem or_empty (w : World) (base : Nat) (hb : base ≤ w.heap.size) : ORg (w.alloc (.cells #[] 158)) base (.slice (some ⟨w.heap.size, 0, none⟩) 0 0) [] :=
  ⟨⟨rfl, .inr ⟨w.heap.size, 0, #[], rfl, hb, heap_alloc_new w _, Nat.le_refl _, Nat.zero_le _, rfl, rfl⟩⟩, fun _ h => by cases h⟩
theorem or_shape {w : World} {base n : Nat} {t : TypeId} {sz : Nat} {v : Value} {xs : List Value} (h : w.ownsRow base t sz v n xs) : ∃ a cap, v = .slice a n cap := by
  obtain ⟨_, ⟨rfl, rfl⟩ | ⟨g, cap, cur, rfl, _⟩⟩ := h
  · exact ⟨_, _, rfl⟩
  · exact ⟨_, _, rfl⟩
theorem news6 (w : World) (g : Rg) : ∀ j u, (cells6 g)[j]? = some u → (w.alloc (.cells #[.int .i64 g.1, .int .i64 g.2.1, .int .i64 g.2.2.1, .bool g.2.2.2.1, .bool g.2.2.2.2.1, .bool g.2.2.2.2.2] 158)).cell? ((⟨w.heap.size, 0, none⟩ : Addr).add j) = some u := by
  intro j u hj
  rw [addr_add, Nat.zero_add, Blk.cell (Blk.new w _ _), ← hj]
  match j with
  | 0 => rfl
  | 1 => rfl
  | 2 => rfl
  | 3 => rfl
  | 4 => rfl
  | 5 => rfl
  | j + 6 => rfl
theorem one6 (g : Rg) : ∀ u ∈ cells6 g, u.oneCell' = true := by
  intro u hu
  simp [cells6] at hu
  rcases hu with rfl | rfl | rfl | rfl | rfl | rfl <;> rfl
theorem or_more {W W' : World} {base : Nat} {v v' : Value} {rs : List Rg} {g : Rg} (hr : ∀ g ∈ rs, wfi g.1 ∧ wfi g.2.1 ∧ wfi g.2.2.1) (hw : wfi g.1 ∧ wfi g.2.1 ∧ wfi g.2.2.1) (h : W'.ownsRow base 158 6 v' (rs.length + 1) (flat rs ++ cells6 g)) : ORg W' base v' (rs ++ [g]) := by
  refine ⟨by simpa [flat] using h, fun y hy => ?_⟩
  rcases List.mem_append.1 hy with hy | hy
  · exact hr y hy
  · simp at hy; subst hy; exact hw
theorem grown_turn {W W' : World} {row : Option Nat} (h : W.grownBy W' row) : Turn (fun j => row = some j) W W' := ⟨h.os, h.tape, h.output, h.size, fun k hk hn => h.block k hk (fun e => hn e.symm)⟩
end Go.Proofs.YtngdgogjlpjjpaeGreat
