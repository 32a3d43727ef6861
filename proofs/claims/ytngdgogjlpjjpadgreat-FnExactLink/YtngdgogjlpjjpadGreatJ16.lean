import Derived.Test.YtngdgogjlpjjpadGreatJ15
import Derived.Test.YtngdgogjlpjjpadGreatJ01
namespace Go.Proofs.YtngdgogjlpjjpadGreat
open Go.RowKit
set_option linter.unusedVariables false
set_option linter.unusedSimpArgs false
set_option maxRecDepth 100000

/-- A SLICE OF EXPORTS, their names of any length. -/
def TE (w : World) (a : Option Addr) (n cap : Nat) (es : List Ex) : Prop :=
  es.length = n ∧ n ≤ maxLen ∧ (∀ i, (es.getD i zE).1.size ≤ maxLen) ∧ (n ≠ 0 → ∃ b off, a = some ⟨b, off, none⟩ ∧ ∀ i, i < n → w.cell? ⟨b, off + i * 3, none⟩ = some (.string (es.getD i zE).1) ∧ w.cell? ⟨b, off + i * 3 + 1, none⟩ = some (.int .i64 (es.getD i zE).2.1) ∧ w.cell? ⟨b, off + i * 3 + 2, none⟩ = some (.int .i64 (es.getD i zE).2.2)) ∧ n ≤ cap
theorem TE.below {w w' : World} {a : Option Addr} {n cap : Nat} {es : List Ex} (h : TE w a n cap es) (hb : Below w.heap.size w w') : TE w' a n cap es := by
  obtain ⟨h1, h2, h3, h4, h5⟩ := h
  refine ⟨h1, h2, h3, fun hn => ?_, h5⟩
  obtain ⟨b, off, e, hc⟩ := h4 hn
  have key : ∀ o v, w.cell? ⟨b, o, none⟩ = some v → w'.cell? ⟨b, o, none⟩ = some v := fun o v hv => (hb.cell (World.block_lt_of_cell? w _ hv)).trans hv
  exact ⟨b, off, e, fun i hi => ⟨key _ _ (hc i hi).1, key _ _ (hc i hi).2.1, key _ _ (hc i hi).2.2⟩⟩
theorem TE.at {w : World} {a : Option Addr} {n cap : Nat} {es : List Ex} (h : TE w a n cap es) (i : Nat) (hi : i < n) : ∃ b off, a = some ⟨b, off, none⟩ ∧ w.cell? ⟨b, off + i * 3, none⟩ = some (.string (es.getD i zE).1) ∧ w.cell? ⟨b, off + i * 3 + 1, none⟩ = some (.int .i64 (es.getD i zE).2.1) ∧ w.cell? ⟨b, off + i * 3 + 2, none⟩ = some (.int .i64 (es.getD i zE).2.2) := by
  obtain ⟨b, off, e, hc⟩ := h.2.2.2.1 (by omega)
  exact ⟨b, off, e, hc i hi⟩
theorem TE.es {w : World} {a : Option Addr} {n cap : Nat} {es : List Ex} (h : TE w a n cap es) (hs : upS (fun j => (es.getD j zE).1.size) n ≤ 1048576) : ES w a n cap es := by
  refine ⟨h.1, h.2.1, fun s hm => ?_, h.2.2.2.1, h.2.2.2.2⟩
  obtain ⟨i, hi, rfl⟩ := List.getElem_of_mem hm
  have h1 := upS_mono (fun j => (es.getD j zE).1.size) (i + 1) n (by have := h.1; omega)
  have h2 : upS (fun j => (es.getD j zE).1.size) (i + 1) = upS (fun j => (es.getD j zE).1.size) i + (es.getD i zE).1.size := rfl
  have h3 : (es.getD i zE).1.size = es[i].1.size := by simp [List.getD_eq_getElem?_getD, hi]
  omega

set_option maxHeartbeats 1000000 in
theorem szExport_any (s : ByteArray) (b i l : Int) (w : World) (hs : s.size ≤ maxLen) (l0 : 0 ≤ l) (l1 : l ≤ 1048576) :
    Calls Tryz.prog 262 #[.agg #[.string s, .int .i64 b, .int .i64 i], .int .i64 l] w fun e w' => e = .returned (.int .i64 (szR l s.size)) ∧ Below w.heap.size w w' := by
  unfold maxLen at hs
  have HB := hide ((Below.refl w.heap.size w).alloc (Nat.le_refl _) (.cells #[.string s, .int .i64 b, .int .i64 i] 256))
  obtain ⟨r, hr⟩ : ∃ r, r = szR l s.size := ⟨_, rfl⟩
  rw [← hr]
  unfold szR at hr
  have HR := hide hr
  clear hr
  by_cases c : l < (s.size : Int)
  · have e := hide (show r = -1 by rw [HR.out, if_pos c])
    have c' : l - (s.size : Int) < 0 := by omega
    go_enter Tryz.func262, Tryz.ntmps262
    go_wp2
    go_ret
    exact ⟨ret_int e.out.symm, HB.out⟩
  · have e := hide (show r = l - s.size by rw [HR.out, if_neg c])
    have c' : ¬ l - (s.size : Int) < 0 := by omega
    go_enter Tryz.func262, Tryz.ntmps262
    go_wp2
    go_ret
    exact ⟨ret_int e.out.symm, HB.out⟩
end Go.Proofs.YtngdgogjlpjjpadGreat

namespace Go.Proofs.YtngdgogjlpjjpadGreat
open Go.RowKit
set_option linter.unusedVariables false
set_option linter.unusedSimpArgs false
set_option maxRecDepth 100000

set_option maxHeartbeats 1000000 in
theorem szExportS_any (a : Option Addr) (n cap : Nat) (es : List Ex) (l : Int) (w : World) (h : TE w a n cap es) (l0 : 0 ≤ l) (l1 : l ≤ 1048576) :
    Calls Tryz.prog 185 #[.slice a n cap, .int .i64 l] w fun e w' => e = .returned (.int .i64 (szR l (n + upS (fun j => (es.getD j zE).1.size) n))) ∧ Below w.heap.size w w' := by
  have hm := h.2.1
  unfold maxLen at hm
  obtain ⟨r, hr⟩ : ∃ r, r = szR l (n + upS (fun j => (es.getD j zE).1.size) n) := ⟨_, rfl⟩
  rw [← hr]
  unfold szR at hr
  have HR := hide hr
  clear hr
  by_cases c1 : l < (n : Int)
  · have e := hide (show r = -1 from by rw [HR.out, if_pos (by omega)])
    go_enter Tryz.func185, Tryz.ntmps185
    go_wp2
    go_ret
    exact ⟨ret_int e.out.symm, Below.refl _ _⟩
  · go_enter Tryz.func185, Tryz.ntmps185
    go_wp2_with fail
    go_loopw [1, 5] (fun v i wr => ∃ (k : Nat) (z : Int), k ≤ n ∧ i = .int .i64 k ∧ v = .int .i64 z ∧ 0 ≤ z ∧ z ≤ 1048576 ∧ Hid (z = l - n - (upS (fun j => (es.getD j zE).1.size) k : Nat)) ∧ Below w.heap.size w wr) (fun _ i _ => n - (intOf i).toNat)
    case atStart => exact ⟨0, l - n, Nat.zero_le _, rfl, rfl, by omega, by omega, hide (by simp [upS]), Below.refl _ _⟩
    case round =>
      obtain ⟨k, z, hk, rfl, rfl, z0, z1, HZ, hB⟩ := hrel
      by_cases hlt : k < n
      · have hlt' : (k : Int) < (n : Int) := by omega
        obtain ⟨b, off, rfl, y1, y2, y3⟩ := (h.below hB).at k hlt
        have HS := hide (fun w => szExport_any (es.getD k zE).1 (es.getD k zE).2.1 (es.getD k zE).2.2 z w (h.2.2.1 k) z0 z1)
        have HU := hide (show upS (fun j => (es.getD j zE).1.size) (k + 1) = upS (fun j => (es.getD j zE).1.size) k + (es.getD k zE).1.size from rfl)
        have HM := hide (upS_mono (fun j => (es.getD j zE).1.size) (k + 1) n (by omega))
        generalize es.getD k zE = E at *
        obtain ⟨s, eb, ei⟩ := E
        dsimp only at y1 y2 y3 HS HU
        unfold szR at HS
        by_cases c2 : z < (s.size : Int)
        · rw [if_pos c2] at HS
          have e := hide (show r = -1 from by
            have h1 := HZ.out; have h2 := HU.out; have h3 := HM.out
            rw [HR.out, if_pos (by omega)])
          go_wp2_with fail
          refine (HS.out _).mono ?_
          rintro e w1 ⟨rfl, hb1⟩
          go_wp2
          go_ret
          exact ⟨ret_int e.out.symm, hB.trans (hb1.mono hB.size)⟩
        · rw [if_neg c2] at HS
          have hz2 : ¬ z - (s.size : Int) < 0 := by omega
          go_wp2_with fail
          refine (HS.out _).mono ?_
          rintro e w1 ⟨rfl, hb1⟩
          go_wp2
          go_roundw
          case rel => exact ⟨k + 1, z - s.size, by omega, by go_num, rfl, by omega, by omega, hide (by have h1 := HZ.out; have h2 := HU.out; omega), hB.trans (hb1.mono hB.size)⟩
          case measure => simp [intOf]; omega
      · have e := hide (show r = z from by
          have h1 := HZ.out
          have hkn : k = n := by omega
          rw [hkn] at h1
          rw [HR.out, if_neg (by omega)]
          omega)
        go_wp2
        go_ret
        exact ⟨ret_int e.out.symm, hB⟩
end Go.Proofs.YtngdgogjlpjjpadGreat

namespace Go.Proofs.YtngdgogjlpjjpadGreat
open Go.RowKit
set_option linter.unusedVariables false

set_option maxHeartbeats 400000 in
theorem szByteS_any (a : Option Addr) (n cap : Nat) (l : Int) (w : World) (h0 : 0 ≤ l) (h1 : l ≤ 1048576) (hn : n ≤ maxLen) :
    Calls Tryz.prog 77 #[.slice a n cap, .int .i64 l] w fun e w' => e = .returned (.int .i64 (if l < n then -1 else l - n)) ∧ w' = w := by
  unfold maxLen at hn
  by_cases h : l < n
  · go_enter Tryz.func77, Tryz.ntmps77
    go_wp2
    go_ret
    exact ⟨rfl, rfl⟩
  · go_enter Tryz.func77, Tryz.ntmps77
    go_wp2
    go_ret
    exact ⟨rfl, rfl⟩

set_option maxHeartbeats 1000000 in
theorem toByteS_any (a : Option Addr) (n cap : Nat) (zs : List Int) (w : World) (h : BS w a n cap zs) (hn : n ≤ 1048576) :
    Calls Tryz.prog 91 #[.slice a n cap] w fun e w' => e = .returned (.slice (some ⟨w.heap.size, 0, none⟩) n n) ∧ Row8 w' w.heap.size zs ∧ Below w.heap.size w w' := by
  obtain ⟨i0, hi, hz0, hz1, hz2⟩ := info_parts info8
  obtain ⟨hl, hmx, hr, hc, _⟩ := h
  by_cases hn0 : n = 0
  · subst hn0
    obtain rfl : zs = [] := List.eq_nil_of_length_eq_zero hl
    clear hc
    go_enter Tryz.func91, Tryz.ntmps91
    go_wp2_with (at_make; refine wpList_make_full _ rfl _ _ 22 rfl w.heap.size 5 i0 (.int .u8 0) 1 Tryz.underlying22 hi hz0 hz1 .i64 .i64 _ _ 0 rfl rfl rfl rfl (by omega) (by unfold maxLen; omega) (Nat.le_refl _) ?_; intro w1 hown hgr)
    have hrow := row_of_made hown
    have hbel := below_grown hgr
    clear hown hgr
    go_loop [4] (fun i => i = .int .i64 0) (fun _ => 0)
    case atStart => rfl
    case round =>
      obtain rfl := hrel
      go_wp2
      go_ret
      exact ⟨rfl, hrow, hbel⟩
  · obtain ⟨b, off, rfl, hd⟩ := hc hn0
    clear hc
    go_enter Tryz.func91, Tryz.ntmps91
    go_wp2_with (at_make; refine wpList_make_full _ rfl _ _ 22 rfl w.heap.size 5 i0 (.int .u8 0) 1 Tryz.underlying22 hi hz0 hz1 .i64 .i64 _ _ n rfl rfl rfl rfl (by rw [hz2]; omega) (by unfold maxLen; omega) (Nat.le_refl _) ?_; intro w1 hown hgr)
    have hrow := row_of_made hown
    have hbel := below_grown hgr
    clear hown hgr hi hz0 hz1 hz2
    go_loopw [4] (fun i wr => ∃ k : Nat, k ≤ n ∧ i = .int .i64 k ∧ Row8 wr w.heap.size (mid zs k) ∧ Below w.heap.size w wr) (fun i _ => n - (intOf i).toNat)
    case atStart => exact ⟨0, Nat.zero_le _, rfl, by rw [mid_zero, hl]; exact hrow, hbel⟩
    case round =>
      obtain ⟨k, hk, rfl, hR, hB⟩ := hrel
      clear hrow hbel
      by_cases hlt : k < n
      · have hlt' : (k : Int) < (n : Int) := by omega
        have hck : wr.cell? ⟨b, off + k, none⟩ = some (.int .u8 (zs.getD k 0)) := (hB.cell (World.block_lt_of_cell? w _ (hd k hlt))).trans (hd k hlt)
        have hgk : wr.cell? ⟨w.heap.size, k, none⟩ = some (.int .u8 ((mid zs k).getD k 0)) := hR.cell k (by rw [mid_len]; omega)
        have hfk : wr.frozen? ⟨w.heap.size, k, none⟩ = false := hR.frozen k
        have R' := hR.set k (zs.getD k 0)
        rw [mid_set zs k (by omega)] at R'
        have B' : Below w.heap.size w (wr.setCell ⟨w.heap.size, k, none⟩ (.int .u8 (zs.getD k 0))) := hB.setCell (Nat.le_refl _) _
        have HR := R'
        have HB := B'
        generalize zs.getD k 0 = z at *
        generalize (mid zs k).getD k 0 = z0 at *
        clear hd hR hB
        go_wp2
        go_roundw
        case rel => exact ⟨k + 1, by omega, by go_num, HR, HB⟩
        case measure => simp [intOf]; omega
      · have e : Hid (k = n) := by show k = n; omega
        go_wp2
        go_ret
        exact ⟨rfl, by rw [e.out, ← hl, mid_all] at hR; exact hR, hB⟩
end Go.Proofs.YtngdgogjlpjjpadGreat
