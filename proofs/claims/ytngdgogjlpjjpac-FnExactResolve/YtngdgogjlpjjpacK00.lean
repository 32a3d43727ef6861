import Derived.Test.YtngdgogjlpjjpacRows
import Derived.WalkKit
import Derived.WalkSpells
import Derived.WalkLawsBesides
namespace Go.Proofs.Ytngdgogjlpjjpac
open Go.RowKit
set_option linter.unusedVariables false

theorem ret_int {k : IntKind} {a b : Int} (h : a = b) : Ending.returned (.int k a) = .returned (.int k b) := by rw [h]
theorem ret_bool {a b : Bool} (h : a = b) : Ending.returned (.bool a) = .returned (.bool b) := by rw [h]

theorem hide {p : Prop} (h : p) : Hid p := h
theorem unhide {p : Prop} (h : Hid p) : p := h

theorem pow_lt (n : Nat) (h : n ≤ 20) : (2:Int)^n ≤ 1048576 := by
  have h1 : (2:Nat)^n ≤ 2^20 := Nat.pow_le_pow_right (by omega) h
  have h2 : ((2^n : Nat) : Int) = (2:Int)^n := by simp
  have h3 : (2:Nat)^20 = 1048576 := rfl
  omega
theorem pow_pos (n : Nat) : 0 < (2:Int)^n := by
  have h1 : 0 < (2:Nat)^n := Nat.pow_pos (by omega)
  have h2 : ((2^n : Nat) : Int) = (2:Int)^n := by simp
  omega

theorem bcell {W w1 : World} (hb : Below W.heap.size W w1) : (∀ b o, b < W.heap.size → w1.cell? ⟨b, o, none⟩ = W.cell? ⟨b, o, none⟩) ∧ (∀ b o, b < W.heap.size → w1.frozen? ⟨b, o, none⟩ = W.frozen? ⟨b, o, none⟩) :=
  ⟨fun b o h => hb.cell (p := ⟨b, o, none⟩) h, fun b o h => hb.frozen (p := ⟨b, o, none⟩) h⟩

end Go.Proofs.Ytngdgogjlpjjpac

namespace Go.Proofs.Ytngdgogjlpjjpac
open Go.RowKit
set_option linter.unusedVariables false
set_option linter.unusedSimpArgs false
set_option maxRecDepth 100000

/-- a byte of a text -/
def byt (s : ByteArray) (k : Nat) : Int := ((s.get! k).toNat : Int)
theorem byt_range (s : ByteArray) (k : Nat) : 0 ≤ byt s k ∧ byt s k ≤ 255 := by
  unfold byt
  have := (s.get! k).toNat_lt
  omega
theorem get_bang (s : ByteArray) (k : Nat) (h : k < s.size) : s.get! k = s[k]'h := by
  simp only [ByteArray.get!, getElem!_def]
  have : s.data[k]? = some (s.data[k]'h) := Array.getElem?_eq_getElem h
  rw [this]
  rfl
theorem str_index (s : ByteArray) (k : Nat) (h : k < s.size) (w : World) : (Instr.index 9 (.string s) (.int .i64 (k : Int))).run Try.prog w = .ok (.int .u8 (byt s k)) w := by
  rw [run_index_string w 9 s .i64 (k : Int) Try.underlying9, dif_pos (by omega)]
  simp only [byt, Int.toNat_natCast, get_bang s k h]
/-- WHAT A NAME IS. -/
def nmo (s : ByteArray) : Bool := decide (1 ≤ s.size ∧ s.size ≤ 12) && (List.range s.size).all fun k => decide (97 ≤ byt s k ∧ byt s k ≤ 122)
theorem nmo_bad (s : ByteArray) (k : Nat) (hk : k < s.size) (h : ¬ (97 ≤ byt s k ∧ byt s k ≤ 122)) : nmo s = false := by
  unfold nmo
  rw [Bool.and_eq_false_iff]
  right
  rw [List.all_eq_false]
  exact ⟨k, by simpa using hk, by simpa using h⟩
theorem nmo_good (s : ByteArray) (h : ∀ j, j < s.size → 97 ≤ byt s j ∧ byt s j ≤ 122) : nmo s = decide (1 ≤ s.size ∧ s.size ≤ 12) := by
  unfold nmo
  rw [show ((List.range s.size).all fun k => decide (97 ≤ byt s k ∧ byt s k ≤ 122)) = true from List.all_eq_true.2 (fun k hk => by simpa using h k (by simpa using hk)), Bool.and_true]

set_option maxHeartbeats 1000000 in
theorem l4NameOk_any (s : ByteArray) (w : World) (hs : s.size ≤ 1048576) :
    Calls Try.prog 68 #[.string s] w fun e w' => e = .returned (.bool (nmo s)) ∧ w = w' := by
  obtain ⟨N, hN⟩ : ∃ N, N = s.size := ⟨_, rfl⟩
  go_enter Try.func68, Try.ntmps68
  go_wp2_with fail
  go_loop [3] (fun i => ∃ k : Nat, k ≤ s.size ∧ i = .int .i64 k ∧ Hid (∀ j, j < k → 97 ≤ byt s j ∧ byt s j ≤ 122)) (fun i => s.size - (intOf i).toNat)
  case atStart => exact ⟨0, Nat.zero_le _, rfl, hide (fun j hj => by omega)⟩
  case round =>
    obtain ⟨k, hk, rfl, HJ⟩ := hrel
    by_cases hlt : k < s.size
    · have hlt' : (k : Int) < (s.size : Int) := by omega
      have hix := str_index s k hlt
      obtain ⟨z0, z1⟩ := byt_range s k
      have HZ := hide (nmo_bad s k hlt)
      have HG := hide (show 97 ≤ byt s k ∧ byt s k ≤ 122 → ∀ j, j < k + 1 → 97 ≤ byt s j ∧ byt s j ≤ 122 from fun h j hj => by
        by_cases e : j = k
        · subst e; exact h
        · exact HJ.out j (by omega))
      generalize byt s k = z at *
      by_cases c1 : z < 97
      · have c1' : (z < 97) = True := by simp [c1]
        go_wp2
        go_ret
        exact ⟨ret_bool (HZ.out (by omega)).symm, rfl⟩
      · by_cases c2 : 122 < z
        · go_wp2
          go_ret
          exact ⟨ret_bool (HZ.out (by omega)).symm, rfl⟩
        · go_wp2
          go_round
          case rel => exact ⟨k + 1, by omega, by go_num, hide (HG.out (by omega))⟩
          case measure => simp [intOf]; omega
    · have e : Hid (k = s.size) := by show k = s.size; omega
      have HE := hide (nmo_good s (fun j hj => HJ.out j (by rw [e.out]; exact hj)))
      by_cases c1 : 1 ≤ s.size
      · by_cases c2 : s.size ≤ 12
        · go_wp2
          go_ret
          exact ⟨ret_bool (by have := e.out; rw [HE.out, Bool.eq_iff_iff]; simp; omega), rfl⟩
        · go_wp2
          go_ret
          exact ⟨ret_bool (by have := e.out; rw [HE.out, Bool.eq_iff_iff]; simp; omega), rfl⟩
      · go_wp2
        go_ret
        exact ⟨ret_bool (by have := e.out; rw [HE.out, Bool.eq_iff_iff]; simp; omega), rfl⟩

set_option maxHeartbeats 1000000 in
theorem isName_any (s : ByteArray) (w : World) (hs : s.size ≤ 1048576) :
    Calls Try.prog 76 #[.string s] w fun e w' => e = .returned (.bool (nmo s)) ∧ w = w' := by
  by_cases c1 : s.size < 1
  · have HF : Hid (nmo s = false) := by show _ = _; unfold nmo; rw [Bool.and_eq_false_iff]; left; simp; omega
    have c1' : (s.size : Int) < 1 := by omega
    go_enter Try.func76, Try.ntmps76
    go_wp2
    go_ret
    exact ⟨ret_bool HF.out.symm, rfl⟩
  · by_cases c2 : 12 < s.size
    · have HF : Hid (nmo s = false) := by show _ = _; unfold nmo; rw [Bool.and_eq_false_iff]; left; simp; omega
      have c1' : ¬ (s.size : Int) < 1 := by omega
      have c2' : (12 : Int) < (s.size : Int) := by omega
      go_enter Try.func76, Try.ntmps76
      go_wp2
      go_ret
      exact ⟨ret_bool HF.out.symm, rfl⟩
    · have c1' : ¬ (s.size : Int) < 1 := by omega
      have c2' : ¬ (12 : Int) < (s.size : Int) := by omega
      go_enter Try.func76, Try.ntmps76
      go_wp2_with fail
      go_loop [14] (fun i => ∃ k : Nat, k ≤ s.size ∧ i = .int .i64 k ∧ Hid (∀ j, j < k → 97 ≤ byt s j ∧ byt s j ≤ 122)) (fun i => s.size - (intOf i).toNat)
      case atStart => exact ⟨0, Nat.zero_le _, rfl, hide (fun j hj => by omega)⟩
      case round =>
        obtain ⟨k, hk, rfl, HJ⟩ := hrel
        by_cases hlt : k < s.size
        · have hlt' : (k : Int) < (s.size : Int) := by omega
          have hix := str_index s k hlt
          obtain ⟨z0, z1⟩ := byt_range s k
          have HZ := hide (nmo_bad s k hlt)
          have HG := hide (show 97 ≤ byt s k ∧ byt s k ≤ 122 → ∀ j, j < k + 1 → 97 ≤ byt s j ∧ byt s j ≤ 122 from fun h j hj => by
            by_cases e : j = k
            · subst e; exact h
            · exact HJ.out j (by omega))
          generalize byt s k = z at *
          by_cases d1 : z < 97
          · go_wp2
            go_ret
            exact ⟨ret_bool (HZ.out (by omega)).symm, rfl⟩
          · by_cases d2 : 122 < z
            · go_wp2
              go_ret
              exact ⟨ret_bool (HZ.out (by omega)).symm, rfl⟩
            · go_wp2
              go_round
              case rel => exact ⟨k + 1, by omega, by go_num, hide (HG.out (by omega))⟩
              case measure => simp [intOf]; omega
        · have e : Hid (k = s.size) := by show k = s.size; omega
          have HE := hide (nmo_good s (fun j hj => HJ.out j (by rw [e.out]; exact hj)))
          go_wp2
          go_ret
          exact ⟨ret_bool (by have := e.out; rw [HE.out, Bool.eq_iff_iff]; simp; omega), rfl⟩
end Go.Proofs.Ytngdgogjlpjjpac
