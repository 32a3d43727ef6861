import Derived.Test.YtngdgogjlpjjpacK03
import Derived.Deep.RegionWith
namespace Go.Proofs.Ytngdgogjlpjjpac
open Go.RowKit
set_option linter.unusedVariables false

theorem info8 : (Try.prog.info? 5).map (fun i => (i.zero, i.size, i.bytes)) = some (some (.int .u8 0), 1, 1) := by kernel_rfl

theorem made8 (n : Nat) : (madeCells (Value.cells (.int .u8 0)) (n * 1)) = ((List.replicate n (0:Int)).map (Value.int .u8)).toArray := by
  apply Array.ext
  · simp [size_madeCells]
  · intro i h1 h2
    simp [madeCells, Value.cells, Nat.mod_one]

theorem row_of_made {w : World} {base g n : Nat} (h : w.ownsRow base 5 1 (.slice (some ⟨g, 0, none⟩) n n) n (madeCells (Value.cells (.int .u8 0)) (n * 1)).toList) : Row8 w g (List.replicate n 0) := by
  obtain ⟨hl, h | ⟨g', cap, cur, hv, hb, hh, h1, h2, h3, h4⟩⟩ := h
  · simp at h
  · simp at hv
    obtain ⟨rfl, rfl⟩ := hv
    unfold Row8
    rw [hh]
    have e : cur.toList = (madeCells (Value.cells (.int .u8 0)) (n * 1)).toList := by
      rw [← h4, List.take_of_length_le (by simp [h3])]
    have e2 : cur = madeCells (Value.cells (.int .u8 0)) (n * 1) := Array.toList_inj.1 e
    rw [e2, made8]

theorem below_grown {w w' : World} (h : w.grownBy w' none) : Below w.heap.size w w' := (Below.refl _ _).grown h (Nat.le_refl _) (fun k hk => by cases hk)

def mok (n1 n2 n3 : Nat) : Bool := decide (n1 ≤ 16384 ∧ n2 ≤ 16384 ∧ n3 ≤ 5000)

set_option maxHeartbeats 400000 in
theorem sMemOk_any (a1 a2 a3 : Option Addr) (n1 c1 n2 c2 n3 c3 : Nat) (w : World) :
    Calls Try.prog 13 #[.agg #[.slice a1 n1 c1, .slice a2 n2 c2, .slice a3 n3 c3]] w fun e w' => e = .returned (.bool (mok n1 n2 n3)) ∧ Below w.heap.size w w' := by
  by_cases k1 : (n1 : Int) ≤ 16384
  all_goals by_cases k2 : (n2 : Int) ≤ 16384
  all_goals by_cases k3 : (n3 : Int) ≤ 5000
  all_goals
    obtain ⟨r, hr⟩ : ∃ r, r = mok n1 n2 n3 := ⟨_, rfl⟩
    have HR : Hid (r = mok n1 n2 n3) := hr
    rw [← hr]
    clear hr
    go_enter Try.func13, Try.ntmps13
    go_wp2
    go_ret
    refine ⟨ret_bool ?_, (Below.refl _ _).alloc (Nat.le_refl _) _⟩
    rw [HR.out]
    unfold mok
    simp
    try omega

set_option maxHeartbeats 400000 in
theorem iMemOk_any (a1 a2 a3 : Option Addr) (n1 c1 n2 c2 n3 c3 : Nat) (w : World) :
    Calls Try.prog 12 #[.agg #[.slice a1 n1 c1, .slice a2 n2 c2, .slice a3 n3 c3]] w fun e w' => e = .returned (.bool (mok n1 n2 n3)) ∧ Below w.heap.size w w' := by
  by_cases k1 : (n1 : Int) ≤ 16384
  all_goals by_cases k2 : (n2 : Int) ≤ 16384
  all_goals by_cases k3 : (n3 : Int) ≤ 5000
  all_goals
    obtain ⟨r, hr⟩ : ∃ r, r = mok n1 n2 n3 := ⟨_, rfl⟩
    have HR : Hid (r = mok n1 n2 n3) := hr
    rw [← hr]
    clear hr
    go_enter Try.func12, Try.ntmps12
    go_wp2
    go_ret
    refine ⟨ret_bool ?_, (Below.refl _ _).alloc (Nat.le_refl _) _⟩
    rw [HR.out]
    unfold mok
    simp
    try omega
theorem Blk.three {w : World} {g : Nat} {a b c : Value} {t : TypeId} (h : Blk w g #[a, b, c] t) :
    w.cell? ⟨g, 0, none⟩ = some a ∧ w.cell? ⟨g, 1, none⟩ = some b ∧ w.cell? ⟨g, 2, none⟩ = some c ∧ ∀ i, w.frozen? ⟨g, i, none⟩ = false :=
  ⟨by rw [h.cell]; rfl, by rw [h.cell]; rfl, by rw [h.cell]; rfl, fun i => h.frozen i⟩

end Go.Proofs.Ytngdgogjlpjjpac
