import Derived.Test.YtngdgogjlpjjpacK25
namespace Go.Proofs.Ytngdgogjlpjjpac
open Go.RowKit
set_option linter.unusedVariables false
set_option linter.unusedSimpArgs false
set_option maxRecDepth 100000

/-- the sum of the first k -/
def upS (f : Nat → Nat) : Nat → Nat
  | 0 => 0
  | k + 1 => upS f k + f k
theorem upS_mono (f : Nat → Nat) (k : Nat) : ∀ m, k ≤ m → upS f k ≤ upS f m
  | 0, h => by obtain rfl : k = 0 := by omega
               exact Nat.le_refl _
  | m + 1, h => by
    by_cases e : k = m + 1
    · subst e; exact Nat.le_refl _
    · have := upS_mono f k m (by omega)
      show _ ≤ upS f m + f m
      omega
def szR (l : Int) (t : Nat) : Int := if l < (t : Int) then -1 else l - t

set_option maxHeartbeats 1000000 in
theorem szIntSS_any (a : Option Addr) (n cap : Nat) (bl : List Bk) (l : Int) (w : World) (h : BKS w a n cap bl) (l0 : 0 ≤ l) (l1 : l ≤ 1048576) :
    Calls Try.prog 64 #[.slice a n cap, .int .i64 l] w fun e w' => e = .returned (.int .i64 (szR l (n + upS (fun j => (bl.getD j zB).2.1) n))) ∧ w = w' := by
  have hm := h.2.1
  unfold maxLen at hm
  obtain ⟨r, hr⟩ : ∃ r, r = szR l (n + upS (fun j => (bl.getD j zB).2.1) n) := ⟨_, rfl⟩
  rw [← hr]
  unfold szR at hr
  have HR := hide hr
  clear hr
  by_cases c1 : l < (n : Int)
  · have e := hide (show r = -1 from by rw [HR.out, if_pos (by omega)])
    go_enter Try.func64, Try.ntmps64
    go_wp2
    go_ret
    exact ⟨ret_int e.out.symm, rfl⟩
  · go_enter Try.func64, Try.ntmps64
    go_wp2_with fail
    go_loop [1, 5] (fun v i => ∃ (k : Nat) (z : Int), k ≤ n ∧ i = .int .i64 k ∧ v = .int .i64 z ∧ 0 ≤ z ∧ z ≤ 1048576 ∧ Hid (z = l - n - (upS (fun j => (bl.getD j zB).2.1) k : Nat))) (fun _ i => n - (intOf i).toNat)
    case atStart => exact ⟨0, l - n, Nat.zero_le _, rfl, rfl, by omega, by omega, hide (by simp [upS])⟩
    case round =>
      obtain ⟨k, z, hk, rfl, rfl, z0, z1, HZ⟩ := hrel
      by_cases hlt : k < n
      · have hlt' : (k : Int) < (n : Int) := by omega
        obtain ⟨b, off, rfl⟩ := h.addr (by omega)
        have hck := h.at k hlt
        have hik := h.2.2.2.1 k hlt
        have hmx := hik.2.1
        have HS := hide (fun w => szIntS_any (bl.getD k zB).1 (bl.getD k zB).2.1 (bl.getD k zB).2.2.1 z w z0 z1 hmx)
        have HU := hide (show upS (fun j => (bl.getD j zB).2.1) (k + 1) = upS (fun j => (bl.getD j zB).2.1) k + (bl.getD k zB).2.1 from rfl)
        have HM := hide (upS_mono (fun j => (bl.getD j zB).2.1) (k + 1) n (by omega))
        clear hik
        generalize (bl.getD k zB).1 = xa at *
        generalize hxn : (bl.getD k zB).2.1 = xn at *
        generalize (bl.getD k zB).2.2.1 = xc at *
        by_cases c2 : z < (xn : Int)
        · rw [if_pos c2] at HS
          have e := hide (show r = -1 from by
            have h1 := HZ.out; have h2 := HU.out; have h3 := HM.out
            rw [HR.out, if_pos (by omega)])
          go_wp2_with (go_at_call 63; refine (HS.out _).mono ?_; rintro e w1 ⟨rfl, rfl⟩)
          go_ret
          exact ⟨ret_int e.out.symm, rfl⟩
        · rw [if_neg c2] at HS
          have hz2 : ¬ z - (xn : Int) < 0 := by omega
          go_wp2_with (go_at_call 63; refine (HS.out _).mono ?_; rintro e w1 ⟨rfl, rfl⟩)
          go_round
          case rel => exact ⟨k + 1, z - xn, by omega, by go_num, rfl, by omega, by omega, hide (by have h1 := HZ.out; have h2 := HU.out; omega)⟩
          case measure => simp [intOf]; omega
      · have e := hide (show r = z from by
          have h1 := HZ.out
          have hkn : k = n := by omega
          rw [hkn] at h1
          rw [HR.out, if_neg (by omega)]
          omega)
        go_wp2
        go_ret
        exact ⟨ret_int e.out.symm, rfl⟩
end Go.Proofs.Ytngdgogjlpjjpac
