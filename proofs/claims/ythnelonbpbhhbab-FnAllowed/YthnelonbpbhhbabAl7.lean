import Derived.Test.YthnelonbpbhhbabAl5
import Derived.Deep.RegionHeld3
import Derived.Deep.RegionWith
namespace Go.Proofs.Ythnelonbpbhhbab
open Go.RowKit
set_option linter.unusedVariables false

set_option maxHeartbeats 1000000 in
theorem eqRegion_same (b l o : Int) (r x y : Bool) (w : World) :
    Calls Try.prog 65 #[.agg #[.int .i64 b, .int .i64 l, .int .i64 o, .bool r, .bool x, .bool y], .agg #[.int .i64 b, .int .i64 l, .int .i64 o, .bool r, .bool x, .bool y]] w fun e w' => e = .returned (.bool true) ∧ Below w.heap.size w w' := by
  have e1 : (b != b) = false := by simp
  have e2 : (l != l) = false := by simp
  have e3 : (o != o) = false := by simp
  have e4 : (r != r) = false := by simp
  have e5 : (x != x) = false := by simp
  have e6 : (y != y) = false := by simp
  go_enter Try.func65, Try.ntmps65
  go_wp2
  go_ret
  exact ⟨rfl, ((Below.refl _ _).alloc (Nat.le_refl _) _).alloc (by simp) _⟩

set_option maxHeartbeats 2000000 in
theorem eqRegionS_same (x x' : Option Addr) (n cap cap' : Nat) (rs : List Rg) (w : World) (h : RS w x n cap rs) (h' : RS w x' n cap' rs) :
    Calls Try.prog 29 #[.slice x n cap, .slice x' n cap'] w fun e w' => e = .returned (.bool true) ∧ Below w.heap.size w w' := by
  have hl := h.1
  have hmx := h.2.1
  unfold maxLen at hmx
  have hne : ((n : Int) != (n : Int)) = false := by simp
  go_enter Try.func29, Try.ntmps29
  go_wp2
  go_loopw [5] (fun i wr => ∃ k : Nat, k ≤ n ∧ i = .int .i64 k ∧ Below w.heap.size w wr) (fun i _ => n - (intOf i).toNat)
  case atStart => exact ⟨0, Nat.zero_le _, rfl, Below.refl _ _⟩
  case round =>
    obtain ⟨k, hk, rfl, hB⟩ := hrel
    by_cases hlt : k < n
    · have hlt' : (k : Int) < (n : Int) := by omega
      obtain ⟨b, off, rfl⟩ := h.some (by omega)
      obtain ⟨b', off', rfl⟩ := h'.some (by omega)
      have hat := (h.below hB).at k hlt
      have hat' := (h'.below hB).at k hlt
      generalize rs.getD k z6 = r at *
      obtain ⟨g1, g2, g3, g4, g5, g6⟩ := r
      have q1 := hat.1
      have q2 := hat.2.1
      have q3 := hat.2.2.1
      have q4 := hat.2.2.2.1
      have q5 := hat.2.2.2.2.1
      have q6 := hat.2.2.2.2.2
      have p1 := hat'.1
      have p2 := hat'.2.1
      have p3 := hat'.2.2.1
      have p4 := hat'.2.2.2.1
      have p5 := hat'.2.2.2.2.1
      have p6 := hat'.2.2.2.2.2
      simp only at q1 q2 q3 q4 q5 q6 p1 p2 p3 p4 p5 p6
      clear hat hat'
      go_wp2
      go_region_held3 (fun w' => w'.cell? ⟨b, off + k * 6, none⟩ = some (.int .i64 g1) ∧ w'.cell? ⟨b, off + k * 6 + 1, none⟩ = some (.int .i64 g2) ∧ w'.cell? ⟨b, off + k * 6 + 2, none⟩ = some (.int .i64 g3) ∧ w'.cell? ⟨b, off + k * 6 + 3, none⟩ = some (.bool g4) ∧ w'.cell? ⟨b, off + k * 6 + 4, none⟩ = some (.bool g5) ∧ w'.cell? ⟨b, off + k * 6 + 5, none⟩ = some (.bool g6) ∧
          w'.cell? ⟨b', off' + k * 6, none⟩ = some (.int .i64 g1) ∧ w'.cell? ⟨b', off' + k * 6 + 1, none⟩ = some (.int .i64 g2) ∧ w'.cell? ⟨b', off' + k * 6 + 2, none⟩ = some (.int .i64 g3) ∧ w'.cell? ⟨b', off' + k * 6 + 3, none⟩ = some (.bool g4) ∧ w'.cell? ⟨b', off' + k * 6 + 4, none⟩ = some (.bool g5) ∧ w'.cell? ⟨b', off' + k * 6 + 5, none⟩ = some (.bool g6)) (go_keep)
        (first
          | (go_at_call 65; refine (eqRegion_same g1 g2 g3 g4 g5 g6 _).mono ?_; rintro e w1 ⟨rfl, hb1⟩; replace hb1 := undrew hb1; obtain ⟨hc1, hf1⟩ := bcell hb1; have hlb := World.block_lt_of_cell? _ _ q1; have hlb' := World.block_lt_of_cell? _ _ p1))
      clear hc1 hf1 q1 q2 q3 q4 q5 q6 p1 p2 p3 p4 p5 p6
      go_wp2
      go_roundw
      case rel => exact ⟨k + 1, by omega, by go_num, hB.trans (hb1.mono hB.size)⟩
      case measure => simp [intOf]; omega
    · go_wp2
      go_ret
      exact ⟨rfl, hB⟩
end Go.Proofs.Ythnelonbpbhhbab
