import Derived.Test.YtngdgogjlpjjpaeGreatGa05
import Derived.Test.YtngdgogjlpjjpaeGreatGa01
namespace Go.Proofs.YtngdgogjlpjjpaeGreat
open Go.RowKit
set_option linter.unusedVariables false
set_option linter.unusedSimpArgs false
set_option maxRecDepth 100000

/-- A SLICE OF TEXTS, of any length. -/
def TS (w : World) (a : Option Addr) (n cap : Nat) (ss : List ByteArray) : Prop :=
  ss.length = n ∧ n ≤ maxLen ∧ (∀ i, (ss.getD i zS).size ≤ maxLen) ∧ (n ≠ 0 → ∃ b off, a = some ⟨b, off, none⟩ ∧ ∀ i, i < n → w.cell? ⟨b, off + i, none⟩ = some (.string (ss.getD i zS))) ∧ n ≤ cap
theorem TS.below {w w' : World} {a : Option Addr} {n cap : Nat} {ss : List ByteArray} (h : TS w a n cap ss) (hb : Below w.heap.size w w') : TS w' a n cap ss := by
  obtain ⟨h1, h2, h3, h4, h5⟩ := h
  refine ⟨h1, h2, h3, fun hn => ?_, h5⟩
  obtain ⟨b, off, e, hc⟩ := h4 hn
  exact ⟨b, off, e, fun i hi => (hb.cell (World.block_lt_of_cell? w _ (hc i hi))).trans (hc i hi)⟩
theorem TS.at {w : World} {a : Option Addr} {n cap : Nat} {ss : List ByteArray} (h : TS w a n cap ss) (i : Nat) (hi : i < n) : ∃ b off, a = some ⟨b, off, none⟩ ∧ w.cell? ⟨b, off + i, none⟩ = some (.string (ss.getD i zS)) := by
  obtain ⟨b, off, e, hc⟩ := h.2.2.2.1 (by omega)
  exact ⟨b, off, e, hc i hi⟩
/-- texts that are counted and few enough are no longer than the bound -/
theorem TS.ss {w : World} {a : Option Addr} {n cap : Nat} {ss : List ByteArray} (h : TS w a n cap ss) (hs : upS (fun j => (ss.getD j zS).size) n ≤ 1048576) : SS w a n cap ss := by
  refine ⟨h.1, h.2.1, fun s hm => ?_, h.2.2.2.1, h.2.2.2.2⟩
  obtain ⟨i, hi, rfl⟩ := List.getElem_of_mem hm
  have h1 := upS_mono (fun j => (ss.getD j zS).size) (i + 1) n (by have := h.1; omega)
  have h2 : upS (fun j => (ss.getD j zS).size) (i + 1) = upS (fun j => (ss.getD j zS).size) i + (ss.getD i zS).size := rfl
  have h3 : (ss.getD i zS).size = ss[i].size := by simp [List.getD_eq_getElem?_getD, hi]
  omega

set_option maxHeartbeats 1000000 in
theorem szStringS_any (a : Option Addr) (n cap : Nat) (ss : List ByteArray) (l : Int) (w : World) (h : TS w a n cap ss) (l0 : 0 ≤ l) (l1 : l ≤ 1048576) :
    Calls Tryz.prog 127 #[.slice a n cap, .int .i64 l] w fun e w' => e = .returned (.int .i64 (szR l (n + upS (fun j => (ss.getD j zS).size) n))) ∧ w = w' := by
  have hm := h.2.1
  unfold maxLen at hm
  obtain ⟨r, hr⟩ : ∃ r, r = szR l (n + upS (fun j => (ss.getD j zS).size) n) := ⟨_, rfl⟩
  rw [← hr]
  unfold szR at hr
  have HR := hide hr
  clear hr
  by_cases c1 : l < (n : Int)
  · have e := hide (show r = -1 from by rw [HR.out, if_pos (by omega)])
    go_enter Tryz.func127, Tryz.ntmps127
    go_wp2
    go_ret
    exact ⟨ret_int e.out.symm, rfl⟩
  · go_enter Tryz.func127, Tryz.ntmps127
    go_wp2_with fail
    go_loop [1, 5] (fun v i => ∃ (k : Nat) (z : Int), k ≤ n ∧ i = .int .i64 k ∧ v = .int .i64 z ∧ 0 ≤ z ∧ z ≤ 1048576 ∧ Hid (z = l - n - (upS (fun j => (ss.getD j zS).size) k : Nat))) (fun _ i => n - (intOf i).toNat)
    case atStart => exact ⟨0, l - n, Nat.zero_le _, rfl, rfl, by omega, by omega, hide (by simp [upS])⟩
    case round =>
      obtain ⟨k, z, hk, rfl, rfl, z0, z1, HZ⟩ := hrel
      by_cases hlt : k < n
      · have hlt' : (k : Int) < (n : Int) := by omega
        obtain ⟨b, off, rfl, hck⟩ := h.at k hlt
        have hmx := h.2.2.1 k
        unfold maxLen at hmx
        have HU := hide (show upS (fun j => (ss.getD j zS).size) (k + 1) = upS (fun j => (ss.getD j zS).size) k + (ss.getD k zS).size from rfl)
        have HM := hide (upS_mono (fun j => (ss.getD j zS).size) (k + 1) n (by omega))
        generalize ss.getD k zS = s at *
        by_cases c2 : z < (s.size : Int)
        · have c2' : z - (s.size : Int) < 0 := by omega
          have e := hide (show r = -1 from by
            have h1 := HZ.out; have h2 := HU.out; have h3 := HM.out
            rw [HR.out, if_pos (by omega)])
          go_wp2
          go_ret
          exact ⟨ret_int e.out.symm, rfl⟩
        · have c2' : ¬ z - (s.size : Int) < 0 := by omega
          go_wp2
          go_round
          case rel => exact ⟨k + 1, z - s.size, by omega, by go_num, rfl, by omega, by omega, hide (by have h1 := HZ.out; have h2 := HU.out; omega)⟩
          case measure => simp [intOf]; omega
      · have e := hide (show r = z from by
          have h1 := HZ.out
          have hkn : k = n := by omega
          rw [hkn] at h1
          rw [HR.out, if_neg (by omega)]
          omega)
        go_wp2
        go_ret
        exact ⟨ret_int e.out.symm, rfl⟩
end Go.Proofs.YtngdgogjlpjjpaeGreat

namespace Go.Proofs.YtngdgogjlpjjpaeGreat
open Go.RowKit
set_option linter.unusedVariables false
set_option linter.unusedSimpArgs false
set_option maxRecDepth 100000

/-- A SLICE OF EXPORTS, their names of any length. -/
def TE (w : World) (a : Option Addr) (n cap : Nat) (es : List Ex) : Prop :=
  es.length = n ∧ n ≤ maxLen ∧ (∀ i, (es.getD i zE).1.size ≤ maxLen) ∧ (n ≠ 0 → ∃ b off, a = some ⟨b, off, none⟩ ∧ ∀ i, i < n → w.cell? ⟨b, off + i * 3, none⟩ = some (.string (es.getD i zE).1) ∧ w.cell? ⟨b, off + i * 3 + 1, none⟩ = some (.int .i64 (es.getD i zE).2.1) ∧ w.cell? ⟨b, off + i * 3 + 2, none⟩ = some (.int .i64 (es.getD i zE).2.2)) ∧ n ≤ cap
theorem TE.below {w w' : World} {a : Option Addr} {n cap : Nat} {es : List Ex} (h : TE w a n cap es) (hb : Below w.heap.size w w') : TE w' a n cap es := by
  obtain ⟨h1, h2, h3, h4, h5⟩ := h
  refine ⟨h1, h2, h3, fun hn => ?_, h5⟩
  obtain ⟨b, off, e, hc⟩ := h4 hn
  have key : ∀ o v, w.cell? ⟨b, o, none⟩ = some v → w'.cell? ⟨b, o, none⟩ = some v := fun o v hv => (hb.cell (World.block_lt_of_cell? w _ hv)).trans hv
  exact ⟨b, off, e, fun i hi => ⟨key _ _ (hc i hi).1, key _ _ (hc i hi).2.1, key _ _ (hc i hi).2.2⟩⟩
theorem TE.at {w : World} {a : Option Addr} {n cap : Nat} {es : List Ex} (h : TE w a n cap es) (i : Nat) (hi : i < n) : ∃ b off, a = some ⟨b, off, none⟩ ∧ w.cell? ⟨b, off + i * 3, none⟩ = some (.string (es.getD i zE).1) ∧ w.cell? ⟨b, off + i * 3 + 1, none⟩ = some (.int .i64 (es.getD i zE).2.1) ∧ w.cell? ⟨b, off + i * 3 + 2, none⟩ = some (.int .i64 (es.getD i zE).2.2) := by
  obtain ⟨b, off, e, hc⟩ := h.2.2.2.1 (by omega)
  exact ⟨b, off, e, hc i hi⟩
theorem TE.es {w : World} {a : Option Addr} {n cap : Nat} {es : List Ex} (h : TE w a n cap es) (hs : upS (fun j => (es.getD j zE).1.size) n ≤ 1048576) : ES w a n cap es := by
  refine ⟨h.1, h.2.1, fun s hm => ?_, h.2.2.2.1, h.2.2.2.2⟩
  obtain ⟨i, hi, rfl⟩ := List.getElem_of_mem hm
  have h1 := upS_mono (fun j => (es.getD j zE).1.size) (i + 1) n (by have := h.1; omega)
  have h2 : upS (fun j => (es.getD j zE).1.size) (i + 1) = upS (fun j => (es.getD j zE).1.size) i + (es.getD i zE).1.size := rfl
  have h3 : (es.getD i zE).1.size = es[i].1.size := by simp [List.getD_eq_getElem?_getD, hi]
  omega

set_option maxHeartbeats 1000000 in
theorem szExport_any (s : ByteArray) (b i l : Int) (w : World) (hs : s.size ≤ maxLen) (l0 : 0 ≤ l) (l1 : l ≤ 1048576) :
    Calls Tryz.prog 200 #[.agg #[.string s, .int .i64 b, .int .i64 i], .int .i64 l] w fun e w' => e = .returned (.int .i64 (szR l s.size)) ∧ Below w.heap.size w w' := by
  unfold maxLen at hs
  have HB := hide ((Below.refl w.heap.size w).alloc (Nat.le_refl _) (.cells #[.string s, .int .i64 b, .int .i64 i] 242))
  obtain ⟨r, hr⟩ : ∃ r, r = szR l s.size := ⟨_, rfl⟩
  rw [← hr]
  unfold szR at hr
  have HR := hide hr
  clear hr
  by_cases c : l < (s.size : Int)
  · have e := hide (show r = -1 by rw [HR.out, if_pos c])
    have c' : l - (s.size : Int) < 0 := by omega
    go_enter Tryz.func200, Tryz.ntmps200
    go_wp2
    go_ret
    exact ⟨ret_int e.out.symm, HB.out⟩
  · have e := hide (show r = l - s.size by rw [HR.out, if_neg c])
    have c' : ¬ l - (s.size : Int) < 0 := by omega
    go_enter Tryz.func200, Tryz.ntmps200
    go_wp2
    go_ret
    exact ⟨ret_int e.out.symm, HB.out⟩
end Go.Proofs.YtngdgogjlpjjpaeGreat

namespace Go.Proofs.YtngdgogjlpjjpaeGreat
open Go.RowKit
set_option linter.unusedVariables false
set_option linter.unusedSimpArgs false
set_option maxRecDepth 100000

set_option maxHeartbeats 1000000 in
theorem szExportS_any (a : Option Addr) (n cap : Nat) (es : List Ex) (l : Int) (w : World) (h : TE w a n cap es) (l0 : 0 ≤ l) (l1 : l ≤ 1048576) :
    Calls Tryz.prog 128 #[.slice a n cap, .int .i64 l] w fun e w' => e = .returned (.int .i64 (szR l (n + upS (fun j => (es.getD j zE).1.size) n))) ∧ Below w.heap.size w w' := by
  have hm := h.2.1
  unfold maxLen at hm
  obtain ⟨r, hr⟩ : ∃ r, r = szR l (n + upS (fun j => (es.getD j zE).1.size) n) := ⟨_, rfl⟩
  rw [← hr]
  unfold szR at hr
  have HR := hide hr
  clear hr
  by_cases c1 : l < (n : Int)
  · have e := hide (show r = -1 from by rw [HR.out, if_pos (by omega)])
    go_enter Tryz.func128, Tryz.ntmps128
    go_wp2
    go_ret
    exact ⟨ret_int e.out.symm, Below.refl _ _⟩
  · go_enter Tryz.func128, Tryz.ntmps128
    go_wp2_with fail
    go_loopw [1, 5] (fun v i wr => ∃ (k : Nat) (z : Int), k ≤ n ∧ i = .int .i64 k ∧ v = .int .i64 z ∧ 0 ≤ z ∧ z ≤ 1048576 ∧ Hid (z = l - n - (upS (fun j => (es.getD j zE).1.size) k : Nat)) ∧ Below w.heap.size w wr) (fun _ i _ => n - (intOf i).toNat)
    case atStart => exact ⟨0, l - n, Nat.zero_le _, rfl, rfl, by omega, by omega, hide (by simp [upS]), Below.refl _ _⟩
    case round =>
      obtain ⟨k, z, hk, rfl, rfl, z0, z1, HZ, hB⟩ := hrel
      by_cases hlt : k < n
      · have hlt' : (k : Int) < (n : Int) := by omega
        obtain ⟨b, off, rfl, y1, y2, y3⟩ := (h.below hB).at k hlt
        have HS := hide (fun w => szExport_any (es.getD k zE).1 (es.getD k zE).2.1 (es.getD k zE).2.2 z w (h.2.2.1 k) z0 z1)
        have HU := hide (show upS (fun j => (es.getD j zE).1.size) (k + 1) = upS (fun j => (es.getD j zE).1.size) k + (es.getD k zE).1.size from rfl)
        have HM := hide (upS_mono (fun j => (es.getD j zE).1.size) (k + 1) n (by omega))
        generalize es.getD k zE = E at *
        obtain ⟨s, eb, ei⟩ := E
        dsimp only at y1 y2 y3 HS HU
        unfold szR at HS
        by_cases c2 : z < (s.size : Int)
        · rw [if_pos c2] at HS
          have e := hide (show r = -1 from by
            have h1 := HZ.out; have h2 := HU.out; have h3 := HM.out
            rw [HR.out, if_pos (by omega)])
          go_wp2_with fail
          refine (HS.out _).mono ?_
          rintro e w1 ⟨rfl, hb1⟩
          go_wp2
          go_ret
          exact ⟨ret_int e.out.symm, hB.trans (hb1.mono hB.size)⟩
        · rw [if_neg c2] at HS
          have hz2 : ¬ z - (s.size : Int) < 0 := by omega
          go_wp2_with fail
          refine (HS.out _).mono ?_
          rintro e w1 ⟨rfl, hb1⟩
          go_wp2
          go_roundw
          case rel => exact ⟨k + 1, z - s.size, by omega, by go_num, rfl, by omega, by omega, hide (by have h1 := HZ.out; have h2 := HU.out; omega), hB.trans (hb1.mono hB.size)⟩
          case measure => simp [intOf]; omega
      · have e := hide (show r = z from by
          have h1 := HZ.out
          have hkn : k = n := by omega
          rw [hkn] at h1
          rw [HR.out, if_neg (by omega)]
          omega)
        go_wp2
        go_ret
        exact ⟨ret_int e.out.symm, hB⟩
end Go.Proofs.YtngdgogjlpjjpaeGreat

namespace Go.Proofs.YtngdgogjlpjjpaeGreat
open Go.RowKit
set_option linter.unusedVariables false

set_option maxHeartbeats 400000 in
theorem szByteS_any (a : Option Addr) (n cap : Nat) (l : Int) (w : World) (h0 : 0 ≤ l) (h1 : l ≤ 1048576) (hn : n ≤ maxLen) :
    Calls Tryz.prog 104 #[.slice a n cap, .int .i64 l] w fun e w' => e = .returned (.int .i64 (if l < n then -1 else l - n)) ∧ w' = w := by
  unfold maxLen at hn
  by_cases h : l < n
  · go_enter Tryz.func104, Tryz.ntmps104
    go_wp2
    go_ret
    exact ⟨rfl, rfl⟩
  · go_enter Tryz.func104, Tryz.ntmps104
    go_wp2
    go_ret
    exact ⟨rfl, rfl⟩

set_option maxHeartbeats 1000000 in
theorem toByteS_any (a : Option Addr) (n cap : Nat) (zs : List Int) (w : World) (h : BS w a n cap zs) (hn : n ≤ 1048576) :
    Calls Tryz.prog 105 #[.slice a n cap] w fun e w' => e = .returned (.slice (some ⟨w.heap.size, 0, none⟩) n n) ∧ Row8 w' w.heap.size zs ∧ Below w.heap.size w w' := by
  obtain ⟨i0, hi, hz0, hz1, hz2⟩ := info_parts info8
  obtain ⟨hl, hmx, hr, hc, _⟩ := h
  by_cases hn0 : n = 0
  · subst hn0
    obtain rfl : zs = [] := List.eq_nil_of_length_eq_zero hl
    clear hc
    go_enter Tryz.func105, Tryz.ntmps105
    go_wp2_with (at_make; refine wpList_make_full _ rfl _ _ 41 rfl w.heap.size 5 i0 (.int .u8 0) 1 Tryz.underlying41 hi hz0 hz1 .i64 .i64 _ _ 0 rfl rfl rfl rfl (by omega) (by unfold maxLen; omega) (Nat.le_refl _) ?_; intro w1 hown hgr)
    have hrow := row_of_made hown
    have hbel := below_grown hgr
    clear hown hgr
    go_loop [4] (fun i => i = .int .i64 0) (fun _ => 0)
    case atStart => rfl
    case round =>
      obtain rfl := hrel
      go_wp2
      go_ret
      exact ⟨rfl, hrow, hbel⟩
  · obtain ⟨b, off, rfl, hd⟩ := hc hn0
    clear hc
    go_enter Tryz.func105, Tryz.ntmps105
    go_wp2_with (at_make; refine wpList_make_full _ rfl _ _ 41 rfl w.heap.size 5 i0 (.int .u8 0) 1 Tryz.underlying41 hi hz0 hz1 .i64 .i64 _ _ n rfl rfl rfl rfl (by rw [hz2]; omega) (by unfold maxLen; omega) (Nat.le_refl _) ?_; intro w1 hown hgr)
    have hrow := row_of_made hown
    have hbel := below_grown hgr
    clear hown hgr hi hz0 hz1 hz2
    go_loopw [4] (fun i wr => ∃ k : Nat, k ≤ n ∧ i = .int .i64 k ∧ Row8 wr w.heap.size (mid zs k) ∧ Below w.heap.size w wr) (fun i _ => n - (intOf i).toNat)
    case atStart => exact ⟨0, Nat.zero_le _, rfl, by rw [mid_zero, hl]; exact hrow, hbel⟩
    case round =>
      obtain ⟨k, hk, rfl, hR, hB⟩ := hrel
      clear hrow hbel
      by_cases hlt : k < n
      · have hlt' : (k : Int) < (n : Int) := by omega
        have hck : wr.cell? ⟨b, off + k, none⟩ = some (.int .u8 (zs.getD k 0)) := (hB.cell (World.block_lt_of_cell? w _ (hd k hlt))).trans (hd k hlt)
        have hgk : wr.cell? ⟨w.heap.size, k, none⟩ = some (.int .u8 ((mid zs k).getD k 0)) := hR.cell k (by rw [mid_len]; omega)
        have hfk : wr.frozen? ⟨w.heap.size, k, none⟩ = false := hR.frozen k
        have R' := hR.set k (zs.getD k 0)
        rw [mid_set zs k (by omega)] at R'
        have B' : Below w.heap.size w (wr.setCell ⟨w.heap.size, k, none⟩ (.int .u8 (zs.getD k 0))) := hB.setCell (Nat.le_refl _) _
        have HR := R'
        have HB := B'
        generalize zs.getD k 0 = z at *
        generalize (mid zs k).getD k 0 = z0 at *
        clear hd hR hB
        go_wp2
        go_roundw
        case rel => exact ⟨k + 1, by omega, by go_num, HR, HB⟩
        case measure => simp [intOf]; omega
      · have e : Hid (k = n) := by show k = n; omega
        go_wp2
        go_ret
        exact ⟨rfl, by rw [e.out, ← hl, mid_all] at hR; exact hR, hB⟩
end Go.Proofs.YtngdgogjlpjjpaeGreat

namespace Go.Proofs.YtngdgogjlpjjpaeGreat
open Go.RowKit
set_option linter.unusedVariables false
set_option linter.unusedSimpArgs false
set_option maxRecDepth 100000

/-- A MODULE AS IT CAME IN: its texts of any length. -/
structure MT (w : World) (nm : ByteArray) (ta : Option Addr) (tn tc : Nat) (tz : List Int) (ba : Option Addr) (bn bc : Nat) (bl : List Bk) (da : Option Addr) (dn dc : Nat) (dz : List Int) (bss : Int) (ra : Option Addr) (rn rc : Nat) (rz : List Int) (ia : Option Addr) (im ic : Nat) (ss : List ByteArray) (ea : Option Addr) (en ec : Nat) (es : List Ex) : Prop where
  n : nm.size ≤ maxLen
  t : IS w ta tn tc tz
  b : BKS w ba bn bc bl
  d : BS w da dn dc dz
  s : wfi bss
  r : IS w ra rn rc rz
  i : TS w ia im ic ss
  e : TE w ea en ec es
theorem MT.below {w w' : World} {nm : ByteArray} {ta : Option Addr} {tn tc : Nat} {tz : List Int} {ba : Option Addr} {bn bc : Nat} {bl : List Bk} {da : Option Addr} {dn dc : Nat} {dz : List Int} {bss : Int} {ra : Option Addr} {rn rc : Nat} {rz : List Int} {ia : Option Addr} {im ic : Nat} {ss : List ByteArray} {ea : Option Addr} {en ec : Nat} {es : List Ex} (h : MT w nm ta tn tc tz ba bn bc bl da dn dc dz bss ra rn rc rz ia im ic ss ea en ec es) (hb : Below w.heap.size w w') : MT w' nm ta tn tc tz ba bn bc bl da dn dc dz bss ra rn rc rz ia im ic ss ea en ec es :=
  ⟨h.n, h.t.below hb, h.b.below hb, h.d.below hb, h.s, h.r.below hb, h.i.below hb, h.e.below hb⟩
/-- what szModule counts -/
def mdSize (nm : ByteArray) (tn bn : Nat) (bl : List Bk) (dn rn im : Nat) (ss : List ByteArray) (en : Nat) (es : List Ex) : Nat :=
  nm.size + tn + (bn + upS (fun j => (bl.getD j zB).2.1) bn) + dn + rn + (im + upS (fun j => (ss.getD j zS).size) im) + (en + upS (fun j => (es.getD j zE).1.size) en)
theorem szR_if (l : Int) (t : Nat) : (if l < (t : Int) then -1 else l - (t : Int)) = szR l t := rfl

set_option maxHeartbeats 4000000 in
theorem szModule_any (nm : ByteArray) (ta : Option Addr) (tn tc : Nat) (tz : List Int) (ba : Option Addr) (bn bc : Nat) (bl : List Bk) (da : Option Addr) (dn dc : Nat) (dz : List Int) (bss : Int) (ra : Option Addr) (rn rc : Nat) (rz : List Int) (ia : Option Addr) (im ic : Nat) (ss : List ByteArray) (ea : Option Addr) (en ec : Nat) (es : List Ex) (l : Int) (w : World) (h : MT w nm ta tn tc tz ba bn bc bl da dn dc dz bss ra rn rc rz ia im ic ss ea en ec es) (l0 : 0 ≤ l) (l1 : l ≤ 1048576) :
    Calls Tryz.prog 46 #[.agg #[.string nm, .slice ta tn tc, .slice ba bn bc, .slice da dn dc, .int .i64 bss, .slice ra rn rc, .slice ia im ic, .slice ea en ec], .int .i64 l] w fun e w' => e = .returned (.int .i64 (szR l (mdSize nm tn bn bl dn rn im ss en es))) ∧ Below w.heap.size w w' := by
  obtain ⟨W, hW⟩ : ∃ W, W = w.alloc (.cells #[.string nm, .slice ta tn tc, .slice ba bn bc, .slice da dn dc, .int .i64 bss, .slice ra rn rc, .slice ia im ic, .slice ea en ec] 97) := ⟨_, rfl⟩
  have hB0 : Below w.heap.size w W := by rw [hW]; exact (Below.refl _ _).alloc (Nat.le_refl _) _
  have kb : Blk W w.heap.size #[.string nm, .slice ta tn tc, .slice ba bn bc, .slice da dn dc, .int .i64 bss, .slice ra rn rc, .slice ia im ic, .slice ea en ec] 97 := by rw [hW]; exact Blk.new _ _ _
  obtain ⟨q0, q1, q2, q3, q4, q5, q6, q7⟩ := kb.eight
  have HW := hide hW
  clear hW
  obtain ⟨r, hr⟩ : ∃ r, r = szR l (mdSize nm tn bn bl dn rn im ss en es) := ⟨_, rfl⟩
  rw [← hr]
  unfold szR mdSize at hr
  have HR := hide hr
  clear hr
  have H0 := h.below hB0
  have hns := h.n
  unfold maxLen at hns
  by_cases c0 : l < (nm.size : Int)
  · have e := hide (show r = -1 from by rw [HR.out, if_pos (by omega)])
    have c0' : l - (nm.size : Int) < 0 := by omega
    go_enter Tryz.func46, Tryz.ntmps46
    go_wp2_with (rw [← HW.out])
    go_ret
    exact ⟨ret_int e.out.symm, hB0⟩
  · have c0' : ¬ l - (nm.size : Int) < 0 := by omega
    obtain ⟨z0, hz0⟩ : ∃ z : Int, z = l - nm.size := ⟨_, rfl⟩
    have g0 : 0 ≤ z0 := by omega
    have g0' : z0 ≤ 1048576 := by omega
    go_enter Tryz.func46, Tryz.ntmps46
    go_wp2_with (rw [← HW.out])
    rw [← hz0]
    have HZ0 := hide hz0
    clear hz0
    have HS0 := hide (fun w => szIntS_any ta tn tc z0 w g0 g0' h.t.2.1)
    by_cases k0 : z0 < ((tn : Nat) : Int)
    · rw [if_pos k0] at HS0
      have e := hide (show r = -1 from by have h1 := HZ0.out; rw [HR.out, if_pos (by omega)])
      refine (HS0.out _).mono ?_
      rintro e w1 ⟨rfl, rfl⟩
      go_wp2
      go_ret
      exact ⟨ret_int e.out.symm, hB0⟩
    · rw [if_neg k0] at HS0
      obtain ⟨z1, hz⟩ : ∃ z : Int, z = z0 - ((tn : Nat) : Int) := ⟨_, rfl⟩
      rw [← hz] at HS0
      have g1 : 0 ≤ z1 := by omega
      have g1' : z1 ≤ 1048576 := by omega
      have HZ1 : Hid (z1 = l - nm.size - ((tn : Nat) : Int)) := by have h1 := HZ0.out; show _ = _; omega
      clear hz
      refine (HS0.out _).mono ?_
      rintro e w1 ⟨rfl, rfl⟩
      have ng0 : ¬ z1 < 0 := by omega
      go_wp2_with fail
      have HS1 := hide (fun w hb => szIntSS_any ba bn bc bl z1 w hb g1 g1')
      unfold szR at HS1
      by_cases k1 : z1 < (((bn + upS (fun j => (bl.getD j zB).2.1) bn) : Nat) : Int)
      · rw [if_pos k1] at HS1
        have e := hide (show r = -1 from by have h1 := HZ1.out; rw [HR.out, if_pos (by omega)])
        refine (HS1.out _ H0.b).mono ?_
        rintro e w1 ⟨rfl, rfl⟩
        go_wp2
        go_ret
        exact ⟨ret_int e.out.symm, hB0⟩
      · rw [if_neg k1] at HS1
        obtain ⟨z2, hz⟩ : ∃ z : Int, z = z1 - (((bn + upS (fun j => (bl.getD j zB).2.1) bn) : Nat) : Int) := ⟨_, rfl⟩
        rw [← hz] at HS1
        have g2 : 0 ≤ z2 := by omega
        have g2' : z2 ≤ 1048576 := by omega
        have HZ2 : Hid (z2 = l - nm.size - ((tn : Nat) : Int) - (((bn + upS (fun j => (bl.getD j zB).2.1) bn) : Nat) : Int)) := by have h1 := HZ1.out; show _ = _; omega
        clear hz
        refine (HS1.out _ H0.b).mono ?_
        rintro e w1 ⟨rfl, rfl⟩
        have ng1 : ¬ z2 < 0 := by omega
        go_wp2_with fail
        have HS2 := hide (fun w => szByteS_any da dn dc z2 w g2 g2' h.d.2.1)
        by_cases k2 : z2 < ((dn : Nat) : Int)
        · rw [if_pos k2] at HS2
          have e := hide (show r = -1 from by have h1 := HZ2.out; rw [HR.out, if_pos (by omega)])
          refine (HS2.out _).mono ?_
          rintro e w1 ⟨rfl, rfl⟩
          go_wp2
          go_ret
          exact ⟨ret_int e.out.symm, hB0⟩
        · rw [if_neg k2] at HS2
          obtain ⟨z3, hz⟩ : ∃ z : Int, z = z2 - ((dn : Nat) : Int) := ⟨_, rfl⟩
          rw [← hz] at HS2
          have g3 : 0 ≤ z3 := by omega
          have g3' : z3 ≤ 1048576 := by omega
          have HZ3 : Hid (z3 = l - nm.size - ((tn : Nat) : Int) - (((bn + upS (fun j => (bl.getD j zB).2.1) bn) : Nat) : Int) - ((dn : Nat) : Int)) := by have h1 := HZ2.out; show _ = _; omega
          clear hz
          refine (HS2.out _).mono ?_
          rintro e w1 ⟨rfl, rfl⟩
          have ng2 : ¬ z3 < 0 := by omega
          go_wp2_with fail
          have HS3 := hide (fun w => szIntS_any ra rn rc z3 w g3 g3' h.r.2.1)
          by_cases k3 : z3 < ((rn : Nat) : Int)
          · rw [if_pos k3] at HS3
            have e := hide (show r = -1 from by have h1 := HZ3.out; rw [HR.out, if_pos (by omega)])
            refine (HS3.out _).mono ?_
            rintro e w1 ⟨rfl, rfl⟩
            go_wp2
            go_ret
            exact ⟨ret_int e.out.symm, hB0⟩
          · rw [if_neg k3] at HS3
            obtain ⟨z4, hz⟩ : ∃ z : Int, z = z3 - ((rn : Nat) : Int) := ⟨_, rfl⟩
            rw [← hz] at HS3
            have g4 : 0 ≤ z4 := by omega
            have g4' : z4 ≤ 1048576 := by omega
            have HZ4 : Hid (z4 = l - nm.size - ((tn : Nat) : Int) - (((bn + upS (fun j => (bl.getD j zB).2.1) bn) : Nat) : Int) - ((dn : Nat) : Int) - ((rn : Nat) : Int)) := by have h1 := HZ3.out; show _ = _; omega
            clear hz
            refine (HS3.out _).mono ?_
            rintro e w1 ⟨rfl, rfl⟩
            have ng3 : ¬ z4 < 0 := by omega
            go_wp2_with fail
            have HS4 := hide (fun w hb => szStringS_any ia im ic ss z4 w hb g4 g4')
            unfold szR at HS4
            by_cases k4 : z4 < (((im + upS (fun j => (ss.getD j zS).size) im) : Nat) : Int)
            · rw [if_pos k4] at HS4
              have e := hide (show r = -1 from by have h1 := HZ4.out; rw [HR.out, if_pos (by omega)])
              refine (HS4.out _ H0.i).mono ?_
              rintro e w1 ⟨rfl, rfl⟩
              go_wp2
              go_ret
              exact ⟨ret_int e.out.symm, hB0⟩
            · rw [if_neg k4] at HS4
              obtain ⟨z5, hz⟩ : ∃ z : Int, z = z4 - (((im + upS (fun j => (ss.getD j zS).size) im) : Nat) : Int) := ⟨_, rfl⟩
              rw [← hz] at HS4
              have g5 : 0 ≤ z5 := by omega
              have g5' : z5 ≤ 1048576 := by omega
              have HZ5 : Hid (z5 = l - nm.size - ((tn : Nat) : Int) - (((bn + upS (fun j => (bl.getD j zB).2.1) bn) : Nat) : Int) - ((dn : Nat) : Int) - ((rn : Nat) : Int) - (((im + upS (fun j => (ss.getD j zS).size) im) : Nat) : Int)) := by have h1 := HZ4.out; show _ = _; omega
              clear hz
              refine (HS4.out _ H0.i).mono ?_
              rintro e w1 ⟨rfl, rfl⟩
              have ng4 : ¬ z5 < 0 := by omega
              go_wp2_with fail
              have HS5 := hide (fun w hb => szExportS_any ea en ec es z5 w hb g5 g5')
              unfold szR at HS5
              by_cases k5 : z5 < (((en + upS (fun j => (es.getD j zE).1.size) en) : Nat) : Int)
              · rw [if_pos k5] at HS5
                have e := hide (show r = -1 from by have h1 := HZ5.out; rw [HR.out, if_pos (by omega)])
                refine (HS5.out _ H0.e).mono ?_
                rintro e w1 ⟨rfl, hbE⟩
                go_wp2
                go_ret
                exact ⟨ret_int e.out.symm, hB0.trans (hbE.mono hB0.size)⟩
              · rw [if_neg k5] at HS5
                obtain ⟨z6, hz⟩ : ∃ z : Int, z = z5 - (((en + upS (fun j => (es.getD j zE).1.size) en) : Nat) : Int) := ⟨_, rfl⟩
                rw [← hz] at HS5
                have g6 : 0 ≤ z6 := by omega
                have g6' : z6 ≤ 1048576 := by omega
                have HZ6 : Hid (z6 = l - nm.size - ((tn : Nat) : Int) - (((bn + upS (fun j => (bl.getD j zB).2.1) bn) : Nat) : Int) - ((dn : Nat) : Int) - ((rn : Nat) : Int) - (((im + upS (fun j => (ss.getD j zS).size) im) : Nat) : Int) - (((en + upS (fun j => (es.getD j zE).1.size) en) : Nat) : Int)) := by have h1 := HZ5.out; show _ = _; omega
                clear hz
                refine (HS5.out _ H0.e).mono ?_
                rintro e w1 ⟨rfl, hbE⟩
                have ng5 : ¬ z6 < 0 := by omega
                have e := hide (show r = z6 from by have h1 := HZ6.out; rw [HR.out, if_neg (by omega)]; omega)
                go_wp2
                go_ret
                exact ⟨ret_int e.out.symm, hB0.trans (hbE.mono hB0.size)⟩
end Go.Proofs.YtngdgogjlpjjpaeGreat
