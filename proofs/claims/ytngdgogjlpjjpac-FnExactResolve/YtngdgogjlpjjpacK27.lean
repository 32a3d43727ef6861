import Derived.Test.YtngdgogjlpjjpacK26
namespace Go.Proofs.Ytngdgogjlpjjpac
open Go.RowKit
set_option linter.unusedVariables false
set_option linter.unusedSimpArgs false
set_option maxRecDepth 100000

/-- A SLICE OF TEXTS, of any length. -/
def TS (w : World) (a : Option Addr) (n cap : Nat) (ss : List ByteArray) : Prop :=
  ss.length = n ∧ n ≤ maxLen ∧ (∀ i, (ss.getD i zS).size ≤ maxLen) ∧ (n ≠ 0 → ∃ b off, a = some ⟨b, off, none⟩ ∧ ∀ i, i < n → w.cell? ⟨b, off + i, none⟩ = some (.string (ss.getD i zS))) ∧ n ≤ cap
theorem TS.below {w w' : World} {a : Option Addr} {n cap : Nat} {ss : List ByteArray} (h : TS w a n cap ss) (hb : Below w.heap.size w w') : TS w' a n cap ss := by
  obtain ⟨h1, h2, h3, h4, h5⟩ := h
  refine ⟨h1, h2, h3, fun hn => ?_, h5⟩
  obtain ⟨b, off, e, hc⟩ := h4 hn
  exact ⟨b, off, e, fun i hi => (hb.cell (World.block_lt_of_cell? w _ (hc i hi))).trans (hc i hi)⟩
theorem TS.at {w : World} {a : Option Addr} {n cap : Nat} {ss : List ByteArray} (h : TS w a n cap ss) (i : Nat) (hi : i < n) : ∃ b off, a = some ⟨b, off, none⟩ ∧ w.cell? ⟨b, off + i, none⟩ = some (.string (ss.getD i zS)) := by
  obtain ⟨b, off, e, hc⟩ := h.2.2.2.1 (by omega)
  exact ⟨b, off, e, hc i hi⟩
/-- texts that are counted and few enough are no longer than the bound -/
theorem TS.ss {w : World} {a : Option Addr} {n cap : Nat} {ss : List ByteArray} (h : TS w a n cap ss) (hs : upS (fun j => (ss.getD j zS).size) n ≤ 1048576) : SS w a n cap ss := by
  refine ⟨h.1, h.2.1, fun s hm => ?_, h.2.2.2.1, h.2.2.2.2⟩
  obtain ⟨i, hi, rfl⟩ := List.getElem_of_mem hm
  have h1 := upS_mono (fun j => (ss.getD j zS).size) (i + 1) n (by have := h.1; omega)
  have h2 : upS (fun j => (ss.getD j zS).size) (i + 1) = upS (fun j => (ss.getD j zS).size) i + (ss.getD i zS).size := rfl
  have h3 : (ss.getD i zS).size = ss[i].size := by simp [List.getD_eq_getElem?_getD, hi]
  omega

set_option maxHeartbeats 1000000 in
theorem szStringS_any (a : Option Addr) (n cap : Nat) (ss : List ByteArray) (l : Int) (w : World) (h : TS w a n cap ss) (l0 : 0 ≤ l) (l1 : l ≤ 1048576) :
    Calls Try.prog 66 #[.slice a n cap, .int .i64 l] w fun e w' => e = .returned (.int .i64 (szR l (n + upS (fun j => (ss.getD j zS).size) n))) ∧ w = w' := by
  have hm := h.2.1
  unfold maxLen at hm
  obtain ⟨r, hr⟩ : ∃ r, r = szR l (n + upS (fun j => (ss.getD j zS).size) n) := ⟨_, rfl⟩
  rw [← hr]
  unfold szR at hr
  have HR := hide hr
  clear hr
  by_cases c1 : l < (n : Int)
  · have e := hide (show r = -1 from by rw [HR.out, if_pos (by omega)])
    go_enter Try.func66, Try.ntmps66
    go_wp2
    go_ret
    exact ⟨ret_int e.out.symm, rfl⟩
  · go_enter Try.func66, Try.ntmps66
    go_wp2_with fail
    go_loop [1, 5] (fun v i => ∃ (k : Nat) (z : Int), k ≤ n ∧ i = .int .i64 k ∧ v = .int .i64 z ∧ 0 ≤ z ∧ z ≤ 1048576 ∧ Hid (z = l - n - (upS (fun j => (ss.getD j zS).size) k : Nat))) (fun _ i => n - (intOf i).toNat)
    case atStart => exact ⟨0, l - n, Nat.zero_le _, rfl, rfl, by omega, by omega, hide (by simp [upS])⟩
    case round =>
      obtain ⟨k, z, hk, rfl, rfl, z0, z1, HZ⟩ := hrel
      by_cases hlt : k < n
      · have hlt' : (k : Int) < (n : Int) := by omega
        obtain ⟨b, off, rfl, hck⟩ := h.at k hlt
        have hmx := h.2.2.1 k
        unfold maxLen at hmx
        have HU := hide (show upS (fun j => (ss.getD j zS).size) (k + 1) = upS (fun j => (ss.getD j zS).size) k + (ss.getD k zS).size from rfl)
        have HM := hide (upS_mono (fun j => (ss.getD j zS).size) (k + 1) n (by omega))
        generalize ss.getD k zS = s at *
        by_cases c2 : z < (s.size : Int)
        · have c2' : z - (s.size : Int) < 0 := by omega
          have e := hide (show r = -1 from by
            have h1 := HZ.out; have h2 := HU.out; have h3 := HM.out
            rw [HR.out, if_pos (by omega)])
          go_wp2
          go_ret
          exact ⟨ret_int e.out.symm, rfl⟩
        · have c2' : ¬ z - (s.size : Int) < 0 := by omega
          go_wp2
          go_round
          case rel => exact ⟨k + 1, z - s.size, by omega, by go_num, rfl, by omega, by omega, hide (by have h1 := HZ.out; have h2 := HU.out; omega)⟩
          case measure => simp [intOf]; omega
      · have e := hide (show r = z from by
          have h1 := HZ.out
          have hkn : k = n := by omega
          rw [hkn] at h1
          rw [HR.out, if_neg (by omega)]
          omega)
        go_wp2
        go_ret
        exact ⟨ret_int e.out.symm, rfl⟩
end Go.Proofs.Ytngdgogjlpjjpac
