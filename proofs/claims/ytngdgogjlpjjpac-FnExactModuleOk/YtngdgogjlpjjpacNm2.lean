import Derived.Test.YtngdgogjlpjjpacNm1
namespace Go.Proofs.Ytngdgogjlpjjpac
open Go.RowKit
set_option linter.unusedVariables false
set_option linter.unusedSimpArgs false
set_option maxRecDepth 100000

/-- THE PLACE OF THE FIRST POINT, from k on, with f places left; -1 where there is none. -/
def dotFrom (s : ByteArray) : Nat → Nat → Int
  | 0, _ => -1
  | f + 1, k => if byt s k = 46 then (k : Int) else dotFrom s f (k + 1)
def dot (s : ByteArray) : Int := dotFrom s s.size 0

set_option maxHeartbeats 1000000 in
theorem l4Dot_any (s : ByteArray) (w : World) (hs : s.size ≤ 1048576) :
    Calls Try.prog 56 #[.string s] w fun e w' => e = .returned (.int .i64 (dot s)) ∧ w = w' := by
  go_enter Try.func56, Try.ntmps56
  go_wp2_with fail
  go_loop [3] (fun i => ∃ k : Nat, k ≤ s.size ∧ i = .int .i64 k ∧ Hid (dot s = dotFrom s (s.size - k) k)) (fun i => s.size - (intOf i).toNat)
  case atStart => exact ⟨0, Nat.zero_le _, rfl, hide rfl⟩
  case round =>
    obtain ⟨k, hk, rfl, HJ⟩ := hrel
    by_cases hlt : k < s.size
    · have hlt' : (k : Int) < (s.size : Int) := by omega
      have hix := str_index s k hlt
      obtain ⟨z0, z1⟩ := byt_range s k
      have HD := hide (show dot s = if byt s k = 46 then (k : Int) else dotFrom s (s.size - (k + 1)) (k + 1) from by
        rw [HJ.out, show s.size - k = (s.size - (k + 1)) + 1 by omega]; rfl)
      clear HJ
      generalize byt s k = z at *
      by_cases c1 : z = 46
      · have HE := hide (show dot s = (k : Int) from by rw [HD.out, if_pos c1])
        subst c1
        go_wp2
        go_ret
        exact ⟨ret_int HE.out.symm, rfl⟩
      · have HE := hide (show dot s = dotFrom s (s.size - (k + 1)) (k + 1) from by rw [HD.out, if_neg c1])
        have c1' : (z == 46) = false := by simpa using c1
        go_wp2
        go_round
        case rel => exact ⟨k + 1, by omega, by go_num, HE⟩
        case measure => simp [intOf]; omega
    · have e : Hid (dot s = -1) := by
        show dot s = -1
        rw [HJ.out, show s.size - k = 0 by omega]; rfl
      go_wp2
      go_ret
      exact ⟨ret_int e.out.symm, rfl⟩
end Go.Proofs.Ytngdgogjlpjjpac
