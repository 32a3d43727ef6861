import Derived.Test.YtngdgogjlpjjpacK21
namespace Go.Proofs.Ytngdgogjlpjjpac
open Go.RowKit
set_option linter.unusedVariables false
set_option linter.unusedSimpArgs false
set_option maxRecDepth 100000

def zS : ByteArray := ⟨#[]⟩
/-- A SLICE OF TEXTS, none of them too long. -/
def SS (w : World) (a : Option Addr) (n cap : Nat) (ss : List ByteArray) : Prop :=
  ss.length = n ∧ n ≤ maxLen ∧ (∀ s ∈ ss, s.size ≤ 1048576) ∧ (n ≠ 0 → ∃ b off, a = some ⟨b, off, none⟩ ∧ ∀ i, i < n → w.cell? ⟨b, off + i, none⟩ = some (.string (ss.getD i zS))) ∧ n ≤ cap
theorem SS.below {w w' : World} {a : Option Addr} {n cap : Nat} {ss : List ByteArray} (h : SS w a n cap ss) (hb : Below w.heap.size w w') : SS w' a n cap ss := by
  obtain ⟨h1, h2, h3, h4, h5⟩ := h
  refine ⟨h1, h2, h3, fun hn => ?_, h5⟩
  obtain ⟨b, off, e, hc⟩ := h4 hn
  exact ⟨b, off, e, fun i hi => (hb.cell (World.block_lt_of_cell? w _ (hc i hi))).trans (hc i hi)⟩
theorem SS.addr {w : World} {a : Option Addr} {n cap : Nat} {ss : List ByteArray} (h : SS w a n cap ss) (hn : n ≠ 0) : ∃ b off, a = some ⟨b, off, none⟩ := by
  obtain ⟨b, off, e, _⟩ := h.2.2.2.1 hn
  exact ⟨b, off, e⟩
theorem SS.at {w : World} {b off n cap : Nat} {ss : List ByteArray} (h : SS w (some ⟨b, off, none⟩) n cap ss) (i : Nat) (hi : i < n) : w.cell? ⟨b, off + i, none⟩ = some (.string (ss.getD i zS)) := by
  obtain ⟨b', off', e, hc⟩ := h.2.2.2.1 (by omega)
  simp at e
  obtain ⟨rfl, rfl⟩ := e
  exact hc i hi
theorem SS.size {w : World} {a : Option Addr} {n cap : Nat} {ss : List ByteArray} (h : SS w a n cap ss) (i : Nat) : (ss.getD i zS).size ≤ 1048576 := by
  by_cases hi : i < ss.length
  · have := h.2.2.1 ss[i] (List.getElem_mem hi)
    simpa [List.getD_eq_getElem?_getD, hi] using this
  · rw [List.getD_eq_getElem?_getD, List.getElem?_eq_none (Nat.le_of_not_lt hi)]
    exact (by decide : (zS).size ≤ 1048576)
/-- WHETHER Imports ARE RIGHT. -/
def imo (n : Nat) (ss : List ByteArray) : Bool := decide (n ≤ 16) && (List.range n).all fun k => full (ss.getD k zS)

set_option maxHeartbeats 2000000 in
theorem importsOk_any (nm : ByteArray) (v1 v2 v3 v5 v7 : Value) (bss : Int) (ia : Option Addr) (n ic : Nat) (ss : List ByteArray) (w : World) (h : SS w ia n ic ss) :
    Calls Try.prog 80 #[.agg #[.string nm, v1, v2, v3, .int .i64 bss, v5, .slice ia n ic, v7]] w fun e w' => e = .returned (.bool (imo n ss)) ∧ Below w.heap.size w w' := by
  obtain ⟨W, hW⟩ : ∃ W, W = w.alloc (.cells #[.string nm, v1, v2, v3, .int .i64 bss, v5, .slice ia n ic, v7] 56) := ⟨_, rfl⟩
  have hB0 : Below w.heap.size w W := by rw [hW]; exact (Below.refl _ _).alloc (Nat.le_refl _) _
  have kb : Blk W w.heap.size #[.string nm, v1, v2, v3, .int .i64 bss, v5, .slice ia n ic, v7] 56 := by rw [hW]; exact Blk.new _ _ _
  obtain ⟨q0, q1, q2, q3, q4, q5, q6, q7⟩ := kb.eight
  obtain ⟨r, hr⟩ : ∃ r, r = imo n ss := ⟨_, rfl⟩
  rw [← hr]
  unfold imo at hr
  have hm1 := h.2.1
  unfold maxLen at hm1
  have HW := hide hW
  clear hW
  by_cases c1 : 16 < n
  · have HR := hide (show r = false by rw [hr, decide_eq_false (by omega)]; rfl)
    clear hr
    have c1' : (16 : Int) < (n : Int) := by omega
    go_enter Try.func80, Try.ntmps80
    go_wp2_with (rw [← HW.out])
    go_ret
    exact ⟨ret_bool HR.out.symm, hB0⟩
  · have c1' : ¬ (16 : Int) < (n : Int) := by omega
    have HR := hide (show r = (List.range n).all (fun k => full (ss.getD k zS)) by rw [hr, decide_eq_true (by omega)]; rfl)
    clear hr
    go_enter Try.func80, Try.ntmps80
    go_wp2_with (rw [← HW.out])
    go_loopw [15] (fun i wr => ∃ k : Nat, k ≤ n ∧ i = .int .i64 k ∧ Hid (∀ j, j < k → full (ss.getD j zS) = true) ∧ Below w.heap.size w wr) (fun i _ => n - (intOf i).toNat)
    case atStart => exact ⟨0, Nat.zero_le _, rfl, hide (fun j hj => by omega), hB0⟩
    case round =>
      obtain ⟨k, hk, rfl, HJ, hB⟩ := hrel
      by_cases hlt : k < n
      · have hlt' : (k : Int) < (n : Int) := by omega
        obtain ⟨bb, off, rfl⟩ := h.addr (by omega)
        have hck := (h.below hB).at k hlt
        have HZ := hide (rng_bad (fun k => full (ss.getD k zS)) n k hlt)
        have HG := hide (show full (ss.getD k zS) = true → ∀ j, j < k + 1 → full (ss.getD j zS) = true from fun h j hj => by
          by_cases e : j = k
          · subst e; exact h
          · exact HJ.out j (by omega))
        have HC := hide (fun w => cutImport_any (ss.getD k zS) w (h.size k))
        generalize ss.getD k zS = s at *
        cases hf : full s
        · rw [cutV, hf, if_neg (by simp)] at HC
          go_wp2_with fail
          refine (HC.out _).mono ?_
          rintro e w1 ⟨rfl, hb1⟩
          go_wp2
          go_ret
          exact ⟨ret_bool (by rw [HR.out]; exact (HZ.out hf).symm), hB.trans (hb1.mono hB.size)⟩
        · rw [cutV, hf, if_pos rfl] at HC
          go_wp2_with fail
          refine (HC.out _).mono ?_
          rintro e w1 ⟨rfl, hb1⟩
          go_wp2
          go_roundw
          case rel => exact ⟨k + 1, by omega, by go_num, hide (HG.out hf), hB.trans (hb1.mono hB.size)⟩
          case measure => simp [intOf]; omega
      · have HE := hide (rng_good (fun k => full (ss.getD k zS)) n (fun j hj => HJ.out j (by omega)))
        go_wp2
        go_ret
        exact ⟨ret_bool (by rw [HR.out]; exact HE.out.symm), hB⟩
end Go.Proofs.Ytngdgogjlpjjpac
