import Derived.Test.YtngdgogjlpjjpaeGreatP03
import Derived.Test.YtngdgogjlpjjpaeGreatP04
namespace Go.Proofs.YtngdgogjlpjjpaeGreat
open Go.RowKit
set_option linter.unusedVariables false
set_option linter.unusedSimpArgs false
set_option maxRecDepth 100000
def TE (w : World) (a : Option Addr) (n cap : Nat) (es : List Ex) : Prop :=
  es.length = n ∧ n ≤ maxLen ∧ (∀ i, (es.getD i zE).1.size ≤ maxLen) ∧ (n ≠ 0 → ∃ b off, a = some ⟨b, off, none⟩ ∧ ∀ i, i < n → w.cell? ⟨b, off + i * 3, none⟩ = some (.string (es.getD i zE).1) ∧ w.cell? ⟨b, off + i * 3 + 1, none⟩ = some (.int .i64 (es.getD i zE).2.1) ∧ w.cell? ⟨b, off + i * 3 + 2, none⟩ = some (.int .i64 (es.getD i zE).2.2)) ∧ n ≤ cap
theorem TE.below {w w' : World} {a : Option Addr} {n cap : Nat} {es : List Ex} (h : TE w a n cap es) (hb : Below w.heap.size w w') : TE w' a n cap es := by
  obtain ⟨h1, h2, h3, h4, h5⟩ := h
  refine ⟨h1, h2, h3, fun hn => ?_, h5⟩
  obtain ⟨b, off, e, hc⟩ := h4 hn
  have key : ∀ o v, w.cell? ⟨b, o, none⟩ = some v → w'.cell? ⟨b, o, none⟩ = some v := fun o v hv => (hb.cell (World.block_lt_of_cell? w _ hv)).trans hv
  exact ⟨b, off, e, fun i hi => ⟨key _ _ (hc i hi).1, key _ _ (hc i hi).2.1, key _ _ (hc i hi).2.2⟩⟩
theorem TE.at {w : World} {a : Option Addr} {n cap : Nat} {es : List Ex} (h : TE w a n cap es) (i : Nat) (hi : i < n) : ∃ b off, a = some ⟨b, off, none⟩ ∧ w.cell? ⟨b, off + i * 3, none⟩ = some (.string (es.getD i zE).1) ∧ w.cell? ⟨b, off + i * 3 + 1, none⟩ = some (.int .i64 (es.getD i zE).2.1) ∧ w.cell? ⟨b, off + i * 3 + 2, none⟩ = some (.int .i64 (es.getD i zE).2.2) := by
  obtain ⟨b, off, e, hc⟩ := h.2.2.2.1 (by omega)
  exact ⟨b, off, e, hc i hi⟩
theorem TE.es {w : World} {a : Option Addr} {n cap : Nat} {es : List Ex} (h : TE w a n cap es) (hs : upS (fun j => (es.getD j zE).1.size) n ≤ 1048576) : ES w a n cap es := by
  refine ⟨h.1, h.2.1, fun s hm => ?_, h.2.2.2.1, h.2.2.2.2⟩
  obtain ⟨i, hi, rfl⟩ := List.getElem_of_mem hm
  have h1 := upS_mono (fun j => (es.getD j zE).1.size) (i + 1) n (by have := h.1; omega)
  have h2 : upS (fun j => (es.getD j zE).1.size) (i + 1) = upS (fun j => (es.getD j zE).1.size) i + (es.getD i zE).1.size := rfl
  have h3 : (es.getD i zE).1.size = es[i].1.size := by simp [List.getD_eq_getElem?_getD, hi]
  omega
set_option maxHeartbeats 1000000 in
theorem szExport_any (s : ByteArray) (b i l : Int) (w : World) (hs : s.size ≤ maxLen) (l0 : 0 ≤ l) (l1 : l ≤ 1048576) :
    Calls Tryz.prog 200 #[.agg #[.string s, .int .i64 b, .int .i64 i], .int .i64 l] w fun e w' => e = .returned (.int .i64 (szR l s.size)) ∧ Below w.heap.size w w' := by
  unfold maxLen at hs
  have HB := hide ((Below.refl w.heap.size w).alloc (Nat.le_refl _) (.cells #[.string s, .int .i64 b, .int .i64 i] 242))
  obtain ⟨r, hr⟩ : ∃ r, r = szR l s.size := ⟨_, rfl⟩
  rw [← hr]
  unfold szR at hr
  have HR := hide hr
  clear hr
  by_cases c : l < (s.size : Int)
  · have e := hide (show r = -1 by rw [HR.out, if_pos c])
    have c' : l - (s.size : Int) < 0 := by omega
    go_enter Tryz.func200, Tryz.ntmps200
    go_wp2
    go_ret
    exact ⟨ret_int e.out.symm, HB.out⟩
  · have e := hide (show r = l - s.size by rw [HR.out, if_neg c])
    have c' : ¬ l - (s.size : Int) < 0 := by omega
    go_enter Tryz.func200, Tryz.ntmps200
    go_wp2
    go_ret
    exact ⟨ret_int e.out.symm, HB.out⟩
set_option maxHeartbeats 1000000 in
theorem szExportS_any (a : Option Addr) (n cap : Nat) (es : List Ex) (l : Int) (w : World) (h : TE w a n cap es) (l0 : 0 ≤ l) (l1 : l ≤ 1048576) :
    Calls Tryz.prog 128 #[.slice a n cap, .int .i64 l] w fun e w' => e = .returned (.int .i64 (szR l (n + upS (fun j => (es.getD j zE).1.size) n))) ∧ Below w.heap.size w w' := by
  have hm := h.2.1
  unfold maxLen at hm
  obtain ⟨r, hr⟩ : ∃ r, r = szR l (n + upS (fun j => (es.getD j zE).1.size) n) := ⟨_, rfl⟩
  rw [← hr]
  unfold szR at hr
  have HR := hide hr
  clear hr
  by_cases c1 : l < (n : Int)
  · have e := hide (show r = -1 from by rw [HR.out, if_pos (by omega)])
    go_enter Tryz.func128, Tryz.ntmps128
    go_wp2
    go_ret
    exact ⟨ret_int e.out.symm, Below.refl _ _⟩
  · go_enter Tryz.func128, Tryz.ntmps128
    go_wp2_with fail
    go_loopw [1, 5] (fun v i wr => ∃ (k : Nat) (z : Int), k ≤ n ∧ i = .int .i64 k ∧ v = .int .i64 z ∧ 0 ≤ z ∧ z ≤ 1048576 ∧ Hid (z = l - n - (upS (fun j => (es.getD j zE).1.size) k : Nat)) ∧ Below w.heap.size w wr) (fun _ i _ => n - (intOf i).toNat)
    case atStart => exact ⟨0, l - n, Nat.zero_le _, rfl, rfl, by omega, by omega, hide (by simp [upS]), Below.refl _ _⟩
    case round =>
      obtain ⟨k, z, hk, rfl, rfl, z0, z1, HZ, hB⟩ := hrel
      by_cases hlt : k < n
      · have hlt' : (k : Int) < (n : Int) := by omega
        obtain ⟨b, off, rfl, y1, y2, y3⟩ := (h.below hB).at k hlt
        have HS := hide (fun w => szExport_any (es.getD k zE).1 (es.getD k zE).2.1 (es.getD k zE).2.2 z w (h.2.2.1 k) z0 z1)
        have HU := hide (show upS (fun j => (es.getD j zE).1.size) (k + 1) = upS (fun j => (es.getD j zE).1.size) k + (es.getD k zE).1.size from rfl)
        have HM := hide (upS_mono (fun j => (es.getD j zE).1.size) (k + 1) n (by omega))
        generalize es.getD k zE = E at *
        obtain ⟨s, eb, ei⟩ := E
        dsimp only at y1 y2 y3 HS HU
        unfold szR at HS
        by_cases c2 : z < (s.size : Int)
        · rw [if_pos c2] at HS
          have e := hide (show r = -1 from by
            have h1 := HZ.out; have h2 := HU.out; have h3 := HM.out
            rw [HR.out, if_pos (by omega)])
          go_wp2_with fail
          refine (HS.out _).mono ?_
          rintro e w1 ⟨rfl, hb1⟩
          go_wp2
          go_ret
          exact ⟨ret_int e.out.symm, hB.trans (hb1.mono hB.size)⟩
        · rw [if_neg c2] at HS
          have hz2 : ¬ z - (s.size : Int) < 0 := by omega
          go_wp2_with fail
          refine (HS.out _).mono ?_
          rintro e w1 ⟨rfl, hb1⟩
          go_wp2
          go_roundw
          case rel => exact ⟨k + 1, z - s.size, by omega, by go_num, rfl, by omega, by omega, hide (by have h1 := HZ.out; have h2 := HU.out; omega), hB.trans (hb1.mono hB.size)⟩
          case measure => simp [intOf]; omega
      · have e := hide (show r = z from by
          have h1 := HZ.out
          have hkn : k = n := by omega
          rw [hkn] at h1
          rw [HR.out, if_neg (by omega)]
          omega)
        go_wp2
        go_ret
        exact ⟨ret_int e.out.symm, hB⟩
end Go.Proofs.YtngdgogjlpjjpaeGreat
