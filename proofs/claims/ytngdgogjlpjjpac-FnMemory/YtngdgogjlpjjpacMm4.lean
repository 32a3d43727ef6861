import Derived.Test.YtngdgogjlpjjpacMm2
namespace Go.Proofs.Ytngdgogjlpjjpac
open Go.RowKit
set_option linter.unusedVariables false
set_option linter.unusedSimpArgs false
set_option maxRecDepth 100000

theorem sTab_at (W : World) (i : Nat) (hi : i < 8) : ∃ o : Int, (o = 1 ∨ o = 2 ∨ o = 3 ∨ o = 4) ∧ (W.alloc (.cells #[.int .i64 4, .int .i64 1, .int .i64 2, .int .i64 4, .int .i64 4, .int .i64 2, .int .i64 1, .int .i64 3] 3)).cell? ⟨W.heap.size, i, none⟩ = some (.int .i64 o) := by
  have hc := (Blk.new W #[.int .i64 4, .int .i64 1, .int .i64 2, .int .i64 4, .int .i64 4, .int .i64 2, .int .i64 1, .int .i64 3] 3).cell i
  match i, hi with
  | 0, _ => exact ⟨_, by decide, hc⟩
  | 1, _ => exact ⟨_, by decide, hc⟩
  | 2, _ => exact ⟨_, by decide, hc⟩
  | 3, _ => exact ⟨_, by decide, hc⟩
  | 4, _ => exact ⟨_, by decide, hc⟩
  | 5, _ => exact ⟨_, by decide, hc⟩
  | 6, _ => exact ⟨_, by decide, hc⟩
  | 7, _ => exact ⟨_, by decide, hc⟩
  | i + 8, h => omega

theorem mod_sm (v n : Int) (h0 : 0 ≤ v) (hn : 0 < n) : (v.tmod n + n).tmod n = v % n := by
  have h1 : v.tmod n = v % n := Int.tmod_eq_emod_of_nonneg h0
  have h2 : 0 ≤ v % n := Int.emod_nonneg v (by omega)
  rw [h1, Int.tmod_eq_emod_of_nonneg (by omega)]
  simp
set_option maxHeartbeats 400000 in
theorem l1Mod_4 (v : Int) (w : World) (h0 : 0 ≤ v) (h1 : v ≤ 1048576) :
    Calls Try.prog 107 #[.int .i64 v, .int .i64 4] w fun e w' => e = .returned (.int .i64 (v % 4)) ∧ w = w' := by
  go_enter Try.func107, Try.ntmps107
  go_wp2
  go_ret
  exact ⟨ret_int (by omega), rfl⟩
set_option maxHeartbeats 400000 in
theorem l1Mod_2 (v : Int) (w : World) (h0 : 0 ≤ v) (h1 : v ≤ 1048576) :
    Calls Try.prog 107 #[.int .i64 v, .int .i64 2] w fun e w' => e = .returned (.int .i64 (v % 2)) ∧ w = w' := by
  go_enter Try.func107, Try.ntmps107
  go_wp2
  go_ret
  exact ⟨ret_int (by omega), rfl⟩
set_option maxHeartbeats 400000 in
theorem l1Mod_1 (v : Int) (w : World) (h0 : 0 ≤ v) (h1 : v ≤ 1048576) :
    Calls Try.prog 107 #[.int .i64 v, .int .i64 1] w fun e w' => e = .returned (.int .i64 (v % 1)) ∧ w = w' := by
  go_enter Try.func107, Try.ntmps107
  go_wp2
  go_ret
  exact ⟨ret_int (by omega), rfl⟩

def WhPost (w : World) (r : Nat) (a : Option Addr) (n c : Nat) (zs : List Int) (k : Nat) (e : Ending) (w' : World) : Prop :=
  ∃ (p s : Int), e = .returned (.tuple #[.int .i64 p, .int .i64 s]) ∧ (-1000 ≤ p ∧ p ≤ 1000000) ∧ (1 ≤ s ∧ s ≤ 4) ∧ Rdr w' r a n c zs k ∧ Turn (fun j => j = r) w w'

set_option maxHeartbeats 4000000 in
theorem l1Where_any (r : Nat) (a : Option Addr) (n c : Nat) (zs : List Int) (k : Nat) (w : World) (h : Rdr w r a n c zs k) (x1 x2 x3 : Option Addr) (n1 c1 n2 c2 n3 c3 : Nat) (hn2 : n2 ≤ 100000) :
    Calls Try.prog 40 #[.pointer (some ⟨r, 0, none⟩), .agg #[.slice x1 n1 c1, .slice x2 n2 c2, .slice x3 n3 c3]] w (WhPost w r a n c zs (k + 1 + 1)) := by
  have hrw := h.blk.lt
  have T0 : Turn (fun j => j = r) w (w.alloc (.cells #[.slice x1 n1 c1, .slice x2 n2 c2, .slice x3 n3 c3] 24)) := turn_alloc w _
  have kr0 := Blk.new w #[.slice x1 n1 c1, .slice x2 n2 c2, .slice x3 n3 c3] 24
  have h0 := rdr_below h ((Below.refl w.heap.size w).alloc (Nat.le_refl _) (.cells #[.slice x1 n1 c1, .slice x2 n2 c2, .slice x3 n3 c3] 24))
  obtain ⟨v1, E1, z0, z0'⟩ := draw_is h.bs k
  obtain ⟨v2, E2, z1, z1'⟩ := draw_is h.bs (k + 1)
  clear h
  go_enter Try.func40, Try.ntmps40
  go_wp2_with fail
  refine (next_is r a n c zs k v1 _ h0 E1).mono ?_
  rintro e w1 ⟨rfl, h1, t1⟩
  have kr1 := turn_blk t1 kr0 (by omega)
  have T1 := T0.trans t1
  clear t1 kr0 T0 h0
  obtain ⟨S, hS, hcS⟩ := sTab_at w1 (v1 % 8).toNat (by omega)
  have h1' := rdr_below h1 ((Below.refl w1.heap.size w1).alloc (Nat.le_refl _) (.cells #[.int .i64 4, .int .i64 1, .int .i64 2, .int .i64 4, .int .i64 4, .int .i64 2, .int .i64 1, .int .i64 3] 3))
  have T1' := T1.trans (turn_alloc w1 (.cells #[.int .i64 4, .int .i64 1, .int .i64 2, .int .i64 4, .int .i64 4, .int .i64 2, .int .i64 1, .int .i64 3] 3))
  have kr1' := kr1.alloc (.cells #[.int .i64 4, .int .i64 1, .int .i64 2, .int .i64 4, .int .i64 4, .int .i64 2, .int .i64 1, .int .i64 3] 3)
  have hl1 := kr1.lt
  go_wp2_with fail
  refine (next_is r a n c zs (k + 1) v2 _ h1' E2).mono ?_
  rintro e w2 ⟨rfl, h2, t2⟩
  have kr2 := turn_blk t2 kr1' (by omega)
  have HT := hide (And.intro h2 (T1'.trans t2))
  obtain ⟨q1, q2, q3, q4⟩ := kr2.three
  clear t2 T1' h1' kr1' kr2 T1 h1 kr1 h2 hcS
  rcases hS with rfl | rfl | rfl | rfl
  · go_wp2_with (first | (go_at_call 43; refine (l1Size_any 1 _).mono ?_; rw [show wd 1 = true from by decide]; rintro e w' ⟨rfl, rfl⟩) | (go_at_call 107; refine (l1Mod_1 _ _ (by omega) (by omega)).mono ?_; rintro e w' ⟨rfl, rfl⟩))
    all_goals
      go_ret2
      exact ⟨_, _, rfl, by omega, by omega, HT.out.1, HT.out.2⟩
  · go_wp2_with (first | (go_at_call 43; refine (l1Size_any 2 _).mono ?_; rw [show wd 2 = true from by decide]; rintro e w' ⟨rfl, rfl⟩) | (go_at_call 107; refine (l1Mod_2 _ _ (by omega) (by omega)).mono ?_; rintro e w' ⟨rfl, rfl⟩))
    all_goals
      go_ret2
      exact ⟨_, _, rfl, by omega, by omega, HT.out.1, HT.out.2⟩
  · go_wp2_with (first | (go_at_call 43; refine (l1Size_any 3 _).mono ?_; rw [show wd 3 = false from by decide]; rintro e w' ⟨rfl, rfl⟩) | fail)
    all_goals
      go_ret2
      exact ⟨_, _, rfl, by omega, by omega, HT.out.1, HT.out.2⟩
  · go_wp2_with (first | (go_at_call 43; refine (l1Size_any 4 _).mono ?_; rw [show wd 4 = true from by decide]; rintro e w' ⟨rfl, rfl⟩) | (go_at_call 107; refine (l1Mod_4 _ _ (by omega) (by omega)).mono ?_; rintro e w' ⟨rfl, rfl⟩))
    all_goals
      go_ret2
      exact ⟨_, _, rfl, by omega, by omega, HT.out.1, HT.out.2⟩
end Go.Proofs.Ytngdgogjlpjjpac
