import Derived.Test.YtngdgogjlpjjpacK00
namespace Go.Proofs.Ytngdgogjlpjjpac
open Go.RowKit
set_option linter.unusedVariables false
set_option linter.unusedSimpArgs false
set_option maxRecDepth 100000

/-- THE PLACE OF THE FIRST POINT, from k on, with f places left; -1 where there is none. -/
def dotFrom (s : ByteArray) : Nat → Nat → Int
  | 0, _ => -1
  | f + 1, k => if byt s k = 46 then (k : Int) else dotFrom s f (k + 1)
def dot (s : ByteArray) : Int := dotFrom s s.size 0

set_option maxHeartbeats 1000000 in
theorem l4Dot_any (s : ByteArray) (w : World) (hs : s.size ≤ 1048576) :
    Calls Try.prog 56 #[.string s] w fun e w' => e = .returned (.int .i64 (dot s)) ∧ w = w' := by
  go_enter Try.func56, Try.ntmps56
  go_wp2_with fail
  go_loop [3] (fun i => ∃ k : Nat, k ≤ s.size ∧ i = .int .i64 k ∧ Hid (dot s = dotFrom s (s.size - k) k)) (fun i => s.size - (intOf i).toNat)
  case atStart => exact ⟨0, Nat.zero_le _, rfl, hide rfl⟩
  case round =>
    obtain ⟨k, hk, rfl, HJ⟩ := hrel
    by_cases hlt : k < s.size
    · have hlt' : (k : Int) < (s.size : Int) := by omega
      have hix := str_index s k hlt
      obtain ⟨z0, z1⟩ := byt_range s k
      have HD := hide (show dot s = if byt s k = 46 then (k : Int) else dotFrom s (s.size - (k + 1)) (k + 1) from by
        rw [HJ.out, show s.size - k = (s.size - (k + 1)) + 1 by omega]; rfl)
      clear HJ
      generalize byt s k = z at *
      by_cases c1 : z = 46
      · have HE := hide (show dot s = (k : Int) from by rw [HD.out, if_pos c1])
        subst c1
        go_wp2
        go_ret
        exact ⟨ret_int HE.out.symm, rfl⟩
      · have HE := hide (show dot s = dotFrom s (s.size - (k + 1)) (k + 1) from by rw [HD.out, if_neg c1])
        have c1' : (z == 46) = false := by simpa using c1
        go_wp2
        go_round
        case rel => exact ⟨k + 1, by omega, by go_num, HE⟩
        case measure => simp [intOf]; omega
    · have e : Hid (dot s = -1) := by
        show dot s = -1
        rw [HJ.out, show s.size - k = 0 by omega]; rfl
      go_wp2
      go_ret
      exact ⟨ret_int e.out.symm, rfl⟩
end Go.Proofs.Ytngdgogjlpjjpac

namespace Go.Proofs.Ytngdgogjlpjjpac
open Go.RowKit
set_option linter.unusedVariables false
set_option linter.unusedSimpArgs false
set_option maxRecDepth 100000

theorem dotFrom_range (s : ByteArray) : ∀ (f k : Nat), dotFrom s f k = -1 ∨ ((k : Int) ≤ dotFrom s f k ∧ dotFrom s f k < k + f)
  | 0, k => Or.inl rfl
  | f + 1, k => by
    unfold dotFrom
    split
    · right; omega
    · rcases dotFrom_range s f (k + 1) with h | h
      · left; exact h
      · right; omega
theorem dot_range (s : ByteArray) : dot s = -1 ∨ (0 ≤ dot s ∧ dot s < s.size) := by
  have := dotFrom_range s s.size 0
  unfold dot
  omega
/-- the two parts of an import -/
def cutA (s : ByteArray) : ByteArray := s.extract 0 (dot s).toNat
def cutB (s : ByteArray) : ByteArray := s.extract (dot s + 1).toNat s.size
theorem cutA_size (s : ByteArray) (hs : s.size ≤ 1048576) : (cutA s).size ≤ 1048576 := by
  unfold cutA
  rw [ByteArray.size_extract]
  omega
theorem cutB_size (s : ByteArray) (hs : s.size ≤ 1048576) : (cutB s).size ≤ 1048576 := by
  unfold cutB
  rw [ByteArray.size_extract]
  omega
/-- WHAT AN IMPORT IS. -/
def full (s : ByteArray) : Bool := decide (0 ≤ dot s) && (nmo (cutA s) && nmo (cutB s))

set_option maxHeartbeats 1000000 in
theorem l4FullOk_any (s : ByteArray) (w : World) (hs : s.size ≤ 1048576) :
    Calls Try.prog 55 #[.string s] w fun e w' => e = .returned (.bool (full s)) ∧ w = w' := by
  have HD := hide (fun w => l4Dot_any s w hs)
  have HA := hide (fun w => l4NameOk_any (cutA s) w (cutA_size s hs))
  have HB := hide (fun w => l4NameOk_any (cutB s) w (cutB_size s hs))
  obtain ⟨r, hr⟩ : ∃ r, r = full s := ⟨_, rfl⟩
  rw [← hr]
  unfold full at hr
  unfold cutA cutB at *
  rcases dot_range s with h | ⟨h0, h1⟩
  · rw [h] at HD hr
    have HR := hide (show r = false from by rw [hr]; rfl)
    clear HA HB hr h
    go_enter Try.func55, Try.ntmps55
    go_wp2_with (go_at_call 56; refine (HD.out _).mono ?_; rintro e w1 ⟨rfl, rfl⟩)
    go_ret
    exact ⟨ret_bool HR.out.symm, rfl⟩
  · generalize dot s = p at *
    generalize nmo (s.extract 0 p.toNat) = A at *
    generalize nmo (s.extract (p + 1).toNat s.size) = B at *
    have HR := hide (show r = (A && B) from by rw [hr]; simp [h0])
    clear hr
    cases A
    · go_enter Try.func55, Try.ntmps55
      go_wp2_with (first
        | (go_at_call 56; refine (HD.out _).mono ?_; rintro e w1 ⟨rfl, rfl⟩)
        | (go_at_call 68; refine (HA.out _).mono ?_; rintro e w1 ⟨rfl, rfl⟩))
      go_ret
      exact ⟨ret_bool HR.out.symm, rfl⟩
    · go_enter Try.func55, Try.ntmps55
      go_wp2_with fail
      refine (HD.out _).mono ?_
      rintro e w1 ⟨rfl, rfl⟩
      go_wp2_with fail
      refine (HA.out _).mono ?_
      rintro e w1 ⟨rfl, rfl⟩
      go_wp2_with fail
      refine (HB.out _).mono ?_
      rintro e w1 ⟨rfl, rfl⟩
      go_wp2
      go_ret
      exact ⟨ret_bool HR.out.symm, rfl⟩
end Go.Proofs.Ytngdgogjlpjjpac
