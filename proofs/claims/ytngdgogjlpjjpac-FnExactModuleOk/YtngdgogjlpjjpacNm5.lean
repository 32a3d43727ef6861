import Derived.Test.YtngdgogjlpjjpacNm4
namespace Go.Proofs.Ytngdgogjlpjjpac
open Go.RowKit
set_option linter.unusedVariables false
set_option linter.unusedSimpArgs false
set_option maxRecDepth 100000

set_option maxHeartbeats 1000000 in
theorem cut_any (s : ByteArray) (w : World) (hs : s.size ≤ 1048576) :
    Calls Try.prog 113 #[.string s, .string ⟨#[46]⟩] w fun e w' => e = .returned (.tuple #[.string (if 0 ≤ dot s then cutA s else s), .string (if 0 ≤ dot s then cutB s else ⟨#[]⟩), .bool (decide (0 ≤ dot s))]) ∧ Below w.heap.size w w' := by
  have HC := hide (fun w => slCut_any s w hs)
  generalize (if 0 ≤ dot s then cutA s else s) = A at *
  generalize (if 0 ≤ dot s then cutB s else ⟨#[]⟩) = B at *
  generalize decide (0 ≤ dot s) = C at *
  go_enter Try.func113, Try.ntmps113
  go_wp2_with (go_at_call 138; refine (HC.out _).mono ?_; rintro e w1 ⟨rfl, hb1⟩)
  go_ret3
  exact ⟨rfl, hb1⟩

theorem nmo_none : nmo ⟨#[]⟩ = false := rfl
/-- WHAT cutImport GIVES. -/
def cutV (s : ByteArray) : Value := if full s then .tuple #[.string (cutA s), .string (cutB s), .bool true] else .tuple #[.string ⟨#[]⟩, .string ⟨#[]⟩, .bool false]

set_option maxHeartbeats 1000000 in
theorem cutImport_any (s : ByteArray) (w : World) (hs : s.size ≤ 1048576) :
    Calls Try.prog 57 #[.string s] w fun e w' => e = .returned (cutV s) ∧ Below w.heap.size w w' := by
  have HC := hide (fun w => cut_any s w hs)
  obtain ⟨V, hV⟩ : ∃ V, V = cutV s := ⟨_, rfl⟩
  rw [← hV]
  unfold cutV full at hV
  have hA : (if 0 ≤ dot s then cutA s else s).size ≤ 1048576 := by split; exact cutA_size s hs; exact hs
  have hB : (if 0 ≤ dot s then cutB s else ⟨#[]⟩).size ≤ 1048576 := by split; exact cutB_size s hs; exact (by decide)
  have HA := hide (fun w => isName_any _ w hA)
  have HB := hide (fun w => isName_any _ w hB)
  have hV' : V = if nmo (if 0 ≤ dot s then cutA s else s) && nmo (if 0 ≤ dot s then cutB s else ⟨#[]⟩) then .tuple #[.string (if 0 ≤ dot s then cutA s else s), .string (if 0 ≤ dot s then cutB s else ⟨#[]⟩), .bool true] else .tuple #[.string ⟨#[]⟩, .string ⟨#[]⟩, .bool false] := by
    by_cases h : 0 ≤ dot s
    · simp only [h, if_true, decide_true, Bool.true_and] at hV ⊢
      exact hV
    · simp only [h, if_false, decide_false, Bool.false_and, nmo_none, Bool.and_false] at hV ⊢
      exact hV
  clear hV hA hB
  generalize (if 0 ≤ dot s then cutA s else s) = A at *
  generalize (if 0 ≤ dot s then cutB s else ⟨#[]⟩) = B at *
  generalize decide (0 ≤ dot s) = C at *
  generalize nmo A = a at *
  generalize nmo B = b at *
  have HV := hide hV'
  clear hV'
  cases a
  · obtain rfl : V = .tuple #[.string ⟨#[]⟩, .string ⟨#[]⟩, .bool false] := HV.out
    go_enter Try.func57, Try.ntmps57
    go_wp2_with fail
    refine (HC.out _).mono ?_
    rintro e w1 ⟨rfl, hb1⟩
    go_wp2_with fail
    refine (HA.out _).mono ?_
    rintro e w2 ⟨rfl, rfl⟩
    go_wp2
    go_ret3
    exact ⟨rfl, hb1⟩
  · cases b
    · obtain rfl : V = .tuple #[.string ⟨#[]⟩, .string ⟨#[]⟩, .bool false] := HV.out
      go_enter Try.func57, Try.ntmps57
      go_wp2_with fail
      refine (HC.out _).mono ?_
      rintro e w1 ⟨rfl, hb1⟩
      go_wp2_with fail
      refine (HA.out _).mono ?_
      rintro e w2 ⟨rfl, rfl⟩
      go_wp2_with fail
      refine (HB.out _).mono ?_
      rintro e w2 ⟨rfl, rfl⟩
      go_wp2
      go_ret3
      exact ⟨rfl, hb1⟩
    · obtain rfl : V = .tuple #[.string A, .string B, .bool true] := HV.out
      go_enter Try.func57, Try.ntmps57
      go_wp2_with fail
      refine (HC.out _).mono ?_
      rintro e w1 ⟨rfl, hb1⟩
      go_wp2_with fail
      refine (HA.out _).mono ?_
      rintro e w2 ⟨rfl, rfl⟩
      go_wp2_with fail
      refine (HB.out _).mono ?_
      rintro e w2 ⟨rfl, rfl⟩
      go_wp2
      go_ret3
      exact ⟨rfl, hb1⟩
end Go.Proofs.Ytngdgogjlpjjpac
