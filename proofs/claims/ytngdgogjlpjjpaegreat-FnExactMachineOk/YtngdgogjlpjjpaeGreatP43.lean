import Derived.Test.YtngdgogjlpjjpaeGreatP29
import Derived.Test.YtngdgogjlpjjpaeGreatP14
import Derived.Test.YtngdgogjlpjjpaeGreatP16
import Derived.Test.YtngdgogjlpjjpaeGreatP23
import Derived.Test.YtngdgogjlpjjpaeGreatP30
import Derived.Test.YtngdgogjlpjjpaeGreatP28
import Derived.Test.YtngdgogjlpjjpaeGreatP36
import Derived.Test.YtngdgogjlpjjpaeGreatP42
namespace Go.Proofs.YtngdgogjlpjjpaeGreat
open Go.RowKit Classical
set_option linter.unusedVariables false
set_option linter.unusedSimpArgs false
set_option maxRecDepth 100000
theorem slF_mem (L : Lay) (b s : Int) : s ∈ slF L b ↔ sOk L b s := by
  unfold slF sOk
  by_cases c : b = -1 ∨ L.slots = []
  · rw [if_pos c, if_pos c]; simp
  · rw [if_neg c, if_neg c]
    simp only [List.mem_map, List.mem_range]
    constructor
    · rintro ⟨i, hi, rfl⟩; omega
    · intro h; exact ⟨s.toNat, by omega, by omega⟩
theorem lok_slots {ps : List PMod} {L : Lay} (h : Lok ps L) : L.slots.length ≤ 4 := by
  obtain ⟨hc, _⟩ := lkc_facts h.1
  unfold cfo at hc
  simp at hc
  omega
set_option maxHeartbeats 1000000 in
theorem slotsFor_any (L : Lay) (a0 : Option Addr) (c0 : Nat) (xs : List PB) (a2 : Option Addr) (c2 : Nat) (a5 : Option Addr) (c5 : Nat) (ts : List TB) (b : Int) (w : World) (h : LyT w L a0 c0 xs a2 c2 a5 c5 ts) (hl : L.slots.length ≤ 4) :
    Calls Tryz.prog 101 #[.agg #[.slice a0 xs.length c0, .int .i64 L.stack, .slice a2 L.slots.length c2, .int .i64 L.flash, .int .i64 L.ram, .slice a5 ts.length c5], .int .i64 b] w fun e w' => ∃ a n c, e = .returned (.slice a n c) ∧ IS w' a n c (slF L b) ∧ Below w.heap.size w w' := by
  by_cases c : b = -1 ∨ L.slots = []
  · exact (slotsFor_one L a0 c0 xs a2 c2 a5 c5 ts b w h c).mono fun e w' ⟨a, c, he, hi, hb⟩ => ⟨a, _, c, he, hi, hb⟩
  · refine (slotsFor_many L a0 c0 xs a2 c2 a5 c5 ts b L.slots.length w (fun e => c (.inl e)) (fun e => c (.inr (List.eq_nil_of_length_eq_zero e))) (by omega)).mono ?_
    rintro e w' ⟨g, rfl, hr, hb⟩
    have e2 : slF L b = upTo L.slots.length := by unfold slF upTo; rw [if_neg c]
    rw [e2]
    refine ⟨_, _, _, rfl, ⟨upTo_len _, by unfold maxLen; omega, fun z hz => ?_, fun _ => ⟨g, 0, rfl, fun i hi => ?_⟩, Nat.le_refl _⟩, hb⟩
    · simp only [upTo, List.mem_map, List.mem_range] at hz
      obtain ⟨i, hi, rfl⟩ := hz
      unfold wfi
      omega
    · rw [Nat.zero_add]
      exact hr.cell i (by rw [upTo_len]; exact hi)
theorem Blk.lyt {w : World} {b : Nat} {t : TypeId} {v0 v1 v2 v3 v4 v5 : Value} (h : Blk w b #[v0, v1, v2, v3, v4, v5] t) : w.cell? ⟨b, 0, none⟩ = some v0 ∧ w.cell? ⟨b, 1, none⟩ = some v1 ∧ w.cell? ⟨b, 2, none⟩ = some v2 ∧ w.cell? ⟨b, 3, none⟩ = some v3 ∧ w.cell? ⟨b, 4, none⟩ = some v4 ∧ w.cell? ⟨b, 5, none⟩ = some v5 := ⟨h.cell 0, h.cell 1, h.cell 2, h.cell 3, h.cell 4, h.cell 5⟩
end Go.Proofs.YtngdgogjlpjjpaeGreat
