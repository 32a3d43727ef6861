import Derived.Test.YtngdgogjlpjjpacRows
import Derived.WalkKit
import Derived.WalkSpells
import Derived.WalkLawsBesides
namespace Go.Proofs.Ytngdgogjlpjjpac
open Go.RowKit
set_option linter.unusedVariables false

theorem ret_int {k : IntKind} {a b : Int} (h : a = b) : Ending.returned (.int k a) = .returned (.int k b) := by rw [h]
theorem ret_bool {a b : Bool} (h : a = b) : Ending.returned (.bool a) = .returned (.bool b) := by rw [h]

theorem hide {p : Prop} (h : p) : Hid p := h
theorem unhide {p : Prop} (h : Hid p) : p := h

theorem pow_lt (n : Nat) (h : n ≤ 20) : (2:Int)^n ≤ 1048576 := by
  have h1 : (2:Nat)^n ≤ 2^20 := Nat.pow_le_pow_right (by omega) h
  have h2 : ((2^n : Nat) : Int) = (2:Int)^n := by simp
  have h3 : (2:Nat)^20 = 1048576 := rfl
  omega
theorem pow_pos (n : Nat) : 0 < (2:Int)^n := by
  have h1 : 0 < (2:Nat)^n := Nat.pow_pos (by omega)
  have h2 : ((2^n : Nat) : Int) = (2:Int)^n := by simp
  omega

theorem bcell {W w1 : World} (hb : Below W.heap.size W w1) : (∀ b o, b < W.heap.size → w1.cell? ⟨b, o, none⟩ = W.cell? ⟨b, o, none⟩) ∧ (∀ b o, b < W.heap.size → w1.frozen? ⟨b, o, none⟩ = W.frozen? ⟨b, o, none⟩) :=
  ⟨fun b o h => hb.cell (p := ⟨b, o, none⟩) h, fun b o h => hb.frozen (p := ⟨b, o, none⟩) h⟩

end Go.Proofs.Ytngdgogjlpjjpac
