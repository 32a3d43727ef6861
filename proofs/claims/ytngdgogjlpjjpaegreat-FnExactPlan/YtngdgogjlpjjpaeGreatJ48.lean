import Derived.Test.YtngdgogjlpjjpaeGreatJ47
import Derived.Test.YtngdgogjlpjjpaeGreatJ43
import Derived.Test.YtngdgogjlpjjpaeGreatJ24
import Derived.Test.YtngdgogjlpjjpaeGreatJ36
import Derived.Test.YtngdgogjlpjjpaeGreatJ38
namespace Go.Proofs.YtngdgogjlpjjpaeGreat
open Go.RowKit
set_option linter.unusedVariables false
set_option linter.unusedSimpArgs false
set_option maxRecDepth 100000

/-- the slots from which a piece can be executed -/
def slF (L : Lay) (b : Int) : List Int := if b = -1 ∨ L.slots = [] then [-1] else (List.range L.slots.length).map (fun i : Nat => (i : Int))
theorem is_one {w : World} {g : Nat} {v : Int} (hv : wfi v) (h : w.cell? ⟨g, 0, none⟩ = some (.int .i64 v)) : IS w (some ⟨g, 0, none⟩) 1 1 [v] := by
  refine ⟨rfl, by unfold maxLen; omega, fun z hz => ?_, fun _ => ⟨g, 0, rfl, fun i hi => ?_⟩, Nat.le_refl _⟩
  · simp at hz; rw [hz]; exact hv
  · obtain rfl : i = 0 := by omega
    simpa using h
set_option maxHeartbeats 1000000 in
theorem slotsFor_one (L : Lay) (a0 : Option Addr) (c0 : Nat) (xs : List PB) (a2 : Option Addr) (c2 : Nat) (a5 : Option Addr) (c5 : Nat) (ts : List TB) (b : Int) (w : World) (h : LyT w L a0 c0 xs a2 c2 a5 c5 ts) (hb : b = -1 ∨ L.slots = []) :
    Calls Tryz.prog 101 #[.agg #[.slice a0 xs.length c0, .int .i64 L.stack, .slice a2 L.slots.length c2, .int .i64 L.flash, .int .i64 L.ram, .slice a5 ts.length c5], .int .i64 b] w fun e w' => ∃ a c, e = .returned (.slice a (slF L b).length c) ∧ IS w' a (slF L b).length c (slF L b) ∧ Below w.heap.size w w' := by
  have HS := hide (show slF L b = [-1] by unfold slF; rw [if_pos hb])
  rw [HS.out]
  show Calls Tryz.prog 101 _ w fun e w' => ∃ a c, e = .returned (.slice a 1 c) ∧ IS w' a 1 c [-1] ∧ Below w.heap.size w w'
  have HB := hide (show Below w.heap.size w (w.alloc (.cells #[.slice a0 xs.length c0, .int .i64 L.stack, .slice a2 L.slots.length c2, .int .i64 L.flash, .int .i64 L.ram, .slice a5 ts.length c5] 36)) from (Below.refl _ _).alloc (Nat.le_refl _) _)
  clear HS
  by_cases c : b = -1
  · subst c
    clear hb h
    generalize xs.length = n at *
    generalize L.slots.length = l at *
    generalize ts.length = k at *
    go_enter Tryz.func101, Tryz.ntmps101
    go_wp2
    go_ret
    refine ⟨_, _, rfl, is_one (by unfold wfi; omega) ?_, HB.out.alloc HB.out.size _⟩
    rw [show w.heap.size + 1 = (w.alloc _).heap.size from (World.size_alloc _ _).symm]
    exact (Blk.new _ _ _).cell 0
  · have hl : L.slots.length = 0 := by rw [hb.resolve_left c]; rfl
    have hz : (b == -1) = false := by simpa using c
    rw [hl]
    rw [hl] at HB
    clear hb h hl
    generalize xs.length = n at *
    generalize ts.length = k at *
    go_enter Tryz.func101, Tryz.ntmps101
    go_wp2
    go_ret
    refine ⟨_, _, rfl, is_one (by unfold wfi; omega) ?_, HB.out.alloc HB.out.size _⟩
    rw [show w.heap.size + 1 = (w.alloc _).heap.size from (World.size_alloc _ _).symm]
    exact (Blk.new _ _ _).cell 0
end Go.Proofs.YtngdgogjlpjjpaeGreat

namespace Go.Proofs.YtngdgogjlpjjpaeGreat
open Go.RowKit
set_option linter.unusedVariables false
set_option linter.unusedSimpArgs false
set_option maxRecDepth 100000

def upTo (n : Nat) : List Int := (List.range n).map (fun i : Nat => (i : Int))
theorem upTo_len (n : Nat) : (upTo n).length = n := by simp [upTo]
theorem upTo_at (n k : Nat) (h : k < n) : (upTo n).getD k 0 = (k : Int) := by simp [upTo, List.getD_eq_getElem?_getD, h]
set_option maxHeartbeats 1000000 in
theorem slotsFor_many (L : Lay) (a0 : Option Addr) (c0 : Nat) (xs : List PB) (a2 : Option Addr) (c2 : Nat) (a5 : Option Addr) (c5 : Nat) (ts : List TB) (b : Int) (l : Nat) (w : World) (hb : ¬ b = -1) (h0 : ¬ l = 0) (h1 : l ≤ 1048576) :
    Calls Tryz.prog 101 #[.agg #[.slice a0 xs.length c0, .int .i64 L.stack, .slice a2 l c2, .int .i64 L.flash, .int .i64 L.ram, .slice a5 ts.length c5], .int .i64 b] w fun e w' => ∃ g, e = .returned (.slice (some ⟨g, 0, none⟩) l l) ∧ RowI w' g (upTo l) ∧ Below w.heap.size w w' := by
  obtain ⟨i0, hi, hz0, hz1, hz2⟩ := info_parts infoI
  have hz : (b == -1) = false := by simpa using hb
  have hl0 : ((l : Int) == 0) = false := by simpa using h0
  obtain ⟨W, hW⟩ : ∃ W, W = w.alloc (.cells #[.slice a0 xs.length c0, .int .i64 L.stack, .slice a2 l c2, .int .i64 L.flash, .int .i64 L.ram, .slice a5 ts.length c5] 36) := ⟨_, rfl⟩
  have HBW := hide (show Below w.heap.size w W by rw [hW]; exact (Below.refl _ _).alloc (Nat.le_refl _) _)
  have k0 : Blk W w.heap.size #[.slice a0 xs.length c0, .int .i64 L.stack, .slice a2 l c2, .int .i64 L.flash, .int .i64 L.ram, .slice a5 ts.length c5] 36 := by rw [hW]; exact Blk.new w _ _
  have d2 : W.cell? ⟨w.heap.size, 2, none⟩ = some (.slice a2 l c2) := k0.cell 2
  have HW := hide hW
  clear hW k0
  generalize xs.length = n at *
  generalize ts.length = k at *
  go_enter Tryz.func101, Tryz.ntmps101
  go_wp2_with (first | rw [← HW.out] | (at_make; refine wpList_make_full _ rfl _ _ 24 rfl W.heap.size 3 i0 (.int .i64 0) 1 Tryz.underlying24 hi hz0 hz1 .i64 .i64 _ _ l rfl rfl rfl rfl (by rw [hz2]; omega) (by unfold maxLen; omega) (Nat.le_refl _) ?_; intro w1 hown hgr))
  have hrow := rowI_of_made hown
  have hbel := below_grown hgr
  clear hown hgr hi hz0 hz1 hz2 d2
  go_loopw [6, 22] (fun _ i wr => ∃ k : Nat, k ≤ l ∧ i = .int .i64 k ∧ RowI wr W.heap.size (mid (upTo l) k) ∧ Below W.heap.size W wr) (fun _ i _ => l - (intOf i).toNat)
  case atStart => exact ⟨0, Nat.zero_le _, rfl, by rw [mid_zero, upTo_len]; exact hrow, hbel⟩
  case round =>
    obtain ⟨k, hk, rfl, hR, hB⟩ := hrel
    clear hrow hbel
    by_cases hlt : k < l
    · have hlt' : (k : Int) < (l : Int) := by omega
      have hgk : wr.cell? ⟨W.heap.size, k, none⟩ = some (.int .i64 ((mid (upTo l) k).getD k 0)) := hR.cell k (by rw [mid_len, upTo_len]; omega)
      have hfk : wr.frozen? ⟨W.heap.size, k, none⟩ = false := hR.frozen k
      have R' := hR.set k ((upTo l).getD k 0)
      rw [mid_set (upTo l) k (by rw [upTo_len]; omega), upTo_at l k hlt] at R'
      have B' : Below W.heap.size W (wr.setCell ⟨W.heap.size, k, none⟩ (.int .i64 (k : Int))) := hB.setCell (Nat.le_refl _) _
      have HR := hide R'
      have HB := hide B'
      generalize (mid (upTo l) k).getD k 0 = z0 at *
      clear hR hB R' B'
      go_wp2
      go_roundw
      case rel => exact ⟨k + 1, by omega, by go_num, HR.out, HB.out⟩
      case measure => simp [intOf]; omega
    · have e : Hid (k = l) := by show k = l; omega
      have HX := hide (And.intro hR hB)
      clear hR hB
      go_wp2
      go_ret
      refine ⟨_, rfl, ?_, HBW.out.trans (HX.out.2.mono HBW.out.size)⟩
      have := HX.out.1
      have e2 : mid (upTo l) l = upTo l := by have := mid_all (upTo l); rwa [upTo_len] at this
      rw [e.out, e2] at this
      exact this
end Go.Proofs.YtngdgogjlpjjpaeGreat

namespace Go.Proofs.YtngdgogjlpjjpaeGreat
open Go.RowKit
set_option linter.unusedVariables false
set_option linter.unusedSimpArgs false
set_option maxRecDepth 100000

theorem slF_mem (L : Lay) (b s : Int) : s ∈ slF L b ↔ sOk L b s := by
  unfold slF sOk
  by_cases c : b = -1 ∨ L.slots = []
  · rw [if_pos c, if_pos c]; simp
  · rw [if_neg c, if_neg c]
    simp only [List.mem_map, List.mem_range]
    constructor
    · rintro ⟨i, hi, rfl⟩; omega
    · intro h; exact ⟨s.toNat, by omega, by omega⟩
theorem lok_slots {ps : List PMod} {L : Lay} (h : Lok ps L) : L.slots.length ≤ 4 := by
  obtain ⟨hc, _⟩ := lkc_facts h.1
  unfold cfo at hc
  simp at hc
  omega
set_option maxHeartbeats 1000000 in
theorem slotsFor_any (L : Lay) (a0 : Option Addr) (c0 : Nat) (xs : List PB) (a2 : Option Addr) (c2 : Nat) (a5 : Option Addr) (c5 : Nat) (ts : List TB) (b : Int) (w : World) (h : LyT w L a0 c0 xs a2 c2 a5 c5 ts) (hl : L.slots.length ≤ 4) :
    Calls Tryz.prog 101 #[.agg #[.slice a0 xs.length c0, .int .i64 L.stack, .slice a2 L.slots.length c2, .int .i64 L.flash, .int .i64 L.ram, .slice a5 ts.length c5], .int .i64 b] w fun e w' => ∃ a n c, e = .returned (.slice a n c) ∧ IS w' a n c (slF L b) ∧ Below w.heap.size w w' := by
  by_cases c : b = -1 ∨ L.slots = []
  · exact (slotsFor_one L a0 c0 xs a2 c2 a5 c5 ts b w h c).mono fun e w' ⟨a, c, he, hi, hb⟩ => ⟨a, _, c, he, hi, hb⟩
  · refine (slotsFor_many L a0 c0 xs a2 c2 a5 c5 ts b L.slots.length w (fun e => c (.inl e)) (fun e => c (.inr (List.eq_nil_of_length_eq_zero e))) (by omega)).mono ?_
    rintro e w' ⟨g, rfl, hr, hb⟩
    have e2 : slF L b = upTo L.slots.length := by unfold slF upTo; rw [if_neg c]
    rw [e2]
    refine ⟨_, _, _, rfl, ⟨upTo_len _, by unfold maxLen; omega, fun z hz => ?_, fun _ => ⟨g, 0, rfl, fun i hi => ?_⟩, Nat.le_refl _⟩, hb⟩
    · simp only [upTo, List.mem_map, List.mem_range] at hz
      obtain ⟨i, hi, rfl⟩ := hz
      unfold wfi
      omega
    · rw [Nat.zero_add]
      exact hr.cell i (by rw [upTo_len]; exact hi)
set_option maxHeartbeats 4000000 in
theorem iPlan_any (a : Option Addr) (n cap : Nat) (ms : List Md) (L : Lay) (a0 : Option Addr) (c0 : Nat) (xs : List PB) (a2 : Option Addr) (c2 : Nat) (a5 : Option Addr) (c5 : Nat) (ts : List TB) (m b at' s : Int) (w : World) (h : MSD w a n cap ms) (hL : LyT w L a0 c0 xs a2 c2 a5 c5 ts) :
    Calls Tryz.prog 31 #[.slice a n cap, .agg #[.slice a0 xs.length c0, .int .i64 L.stack, .slice a2 L.slots.length c2, .int .i64 L.flash, .int .i64 L.ram, .slice a5 ts.length c5], .agg #[.int .i64 m, .int .i64 b, .int .i64 at'], .int .i64 s] w (PnPost w (pmS ms) L m b s) := by
  obtain ⟨W, hW⟩ : ∃ W, W = (w.alloc (.cells #[.slice a0 xs.length c0, .int .i64 L.stack, .slice a2 L.slots.length c2, .int .i64 L.flash, .int .i64 L.ram, .slice a5 ts.length c5] 36)).alloc (.cells #[.int .i64 m, .int .i64 b, .int .i64 at'] 71) := ⟨_, rfl⟩
  have hB : Below w.heap.size w W := by rw [hW]; exact ((Below.refl _ _).alloc (Nat.le_refl _) _).alloc (by simp) _
  have k0 : Blk W w.heap.size #[.slice a0 xs.length c0, .int .i64 L.stack, .slice a2 L.slots.length c2, .int .i64 L.flash, .int .i64 L.ram, .slice a5 ts.length c5] 36 := by rw [hW]; exact (Blk.new w _ _).alloc _
  have k1 : Blk W (w.heap.size + 1) #[.int .i64 m, .int .i64 b, .int .i64 at'] 71 := by rw [hW]; have := Blk.new (w.alloc (.cells #[.slice a0 xs.length c0, .int .i64 L.stack, .slice a2 L.slots.length c2, .int .i64 L.flash, .int .i64 L.ram, .slice a5 ts.length c5] 36)) #[.int .i64 m, .int .i64 b, .int .i64 at'] 71; simpa using this
  have HBV := hide hB
  have HK0 := hide (And.intro k0 k1)
  have HM := hide (h.below hB)
  have HL2 := hide (hL.below hB)
  have HW := hide hW
  have HKX := hide (show ∀ X, Below W.heap.size W X → (X.cell? ⟨w.heap.size, 0, none⟩ = some (.slice a0 xs.length c0) ∧ X.cell? ⟨w.heap.size, 1, none⟩ = some (.int .i64 L.stack) ∧ X.cell? ⟨w.heap.size, 2, none⟩ = some (.slice a2 L.slots.length c2) ∧ X.cell? ⟨w.heap.size, 3, none⟩ = some (.int .i64 L.flash) ∧ X.cell? ⟨w.heap.size, 4, none⟩ = some (.int .i64 L.ram) ∧ X.cell? ⟨w.heap.size, 5, none⟩ = some (.slice a5 ts.length c5)) ∧ X.cell? ⟨w.heap.size + 1, 0, none⟩ = some (.int .i64 m) ∧ X.cell? ⟨w.heap.size + 1, 1, none⟩ = some (.int .i64 b) ∧ X.cell? ⟨w.heap.size + 1, 2, none⟩ = some (.int .i64 at') from fun X hz =>
    ⟨(HK0.out.1.below hz).ly6, (HK0.out.2.below hz).cell 0, (HK0.out.2.below hz).cell 1, (HK0.out.2.below hz).cell 2⟩)
  have HX := hide (show ∀ X, Below W.heap.size W X → Below w.heap.size w X from fun X hz => HBV.out.trans (hz.mono HBV.out.size))
  have HR := hide (show Calls Tryz.prog 56 #[.slice a n cap, .agg #[.slice a0 xs.length c0, .int .i64 L.stack, .slice a2 L.slots.length c2, .int .i64 L.flash, .int .i64 L.ram, .slice a5 ts.length c5]] W (fun e w' => e = .returned (.bool (decide (Lok (pmS ms) L))) ∧ Below W.heap.size W w') from layoutOk_any a n cap ms L a0 c0 xs a2 c2 a5 c5 ts W HM.out HL2.out)
  have HT := hide (show ∀ X, Below W.heap.size W X → Calls Tryz.prog 99 #[.slice a n cap, .int .i64 m, .int .i64 b] X (fun e w' => e = .returned (.bool (decide (0 ≤ pcq (pmS ms) m b))) ∧ Below W.heap.size W w') from fun X hz => (isPiece_any a n cap ms m b X (HM.out.below hz).s).mono fun e w' he => ⟨by rw [← pcm_pcq HM.out]; exact he.1, hz.trans (he.2.mono hz.size)⟩)
  clear hW k0 k1 h hL hB
  obtain ⟨⟨z4, z5, z6, z7, z8, z9⟩, z10, z11, z12⟩ := HKX.out _ (Below.refl _ _)
  by_cases c1 : Lok (pmS ms) L
  · rw [decide_eq_true c1] at HR
    by_cases c2' : 0 ≤ pcq (pmS ms) m b
    · rw [decide_eq_true c2'] at HT
      have HS := hide (show ∀ X, Below W.heap.size W X → Calls Tryz.prog 101 #[.agg #[.slice a0 xs.length c0, .int .i64 L.stack, .slice a2 L.slots.length c2, .int .i64 L.flash, .int .i64 L.ram, .slice a5 ts.length c5], .int .i64 b] X (fun e w' => ∃ a n c, e = .returned (.slice a n c) ∧ IS w' a n c (slF L b) ∧ Below W.heap.size W w') from fun X hz => (slotsFor_any L a0 c0 xs a2 c2 a5 c5 ts b X (HL2.out.below hz) (lok_slots c1)).mono fun e w' ⟨ra, rn, rc, he, hi, hb⟩ => ⟨ra, rn, rc, he, hi, hz.trans (hb.mono hz.size)⟩)
      have HPL0 := hide (show sOk L b s → ∀ X, Below W.heap.size W X → Calls Tryz.prog 102 #[.slice a n cap, .agg #[.slice a0 xs.length c0, .int .i64 L.stack, .slice a2 L.slots.length c2, .int .i64 L.flash, .int .i64 L.ram, .slice a5 ts.length c5], .agg #[.int .i64 m, .int .i64 b, .int .i64 at'], .int .i64 s] X (PoPost X (plR (pmS ms) L m b s)) from fun hf X hz => planOf_any a n cap ms L a0 c0 xs a2 c2 a5 c5 ts m b at' s X (HM.out.below hz) (HL2.out.below hz) c1 c2' hf.fit)
      by_cases c3 : sOk L b s
      · have HC := hide (And.intro c1 (And.intro c2' c3))
        have HPL := hide (HPL0.out c3)
        have HSM := hide (show decide (s ∈ slF L b) = true by rw [decide_eq_true_eq, slF_mem]; exact c3)
        clear c1 c2' c3 HPL0
        go_enter Tryz.func31, Tryz.ntmps31
        go_wp2_with (rw [← HW.out])
        refine HR.out.mono ?_
        rintro e X1 ⟨rfl, hb1⟩
        have HB1 := hide hb1
        clear hb1 z4 z5 z6 z7 z8 z9 z10 z11 z12
        obtain ⟨⟨z4, z5, z6, z7, z8, z9⟩, z10, z11, z12⟩ := HKX.out _ HB1.out
        go_wp2_with fail
        refine (HT.out _ HB1.out).mono ?_
        rintro e X2 ⟨rfl, hb2⟩
        have HB2 := hide hb2
        clear hb2 z4 z5 z6 z7 z8 z9 z10 z11 z12
        obtain ⟨⟨z4, z5, z6, z7, z8, z9⟩, z10, z11, z12⟩ := HKX.out _ HB2.out
        go_wp2_with fail
        refine (HS.out _ HB2.out).mono ?_
        rintro e X3 ⟨ra, rn, rc, rfl, hI, hb3⟩
        have HB3 := hide hb3
        have HI := hide (sliceHasI_any ra rn rc (slF L b) s X3 hI)
        clear hb3 hI z4 z5 z6 z7 z8 z9 z10 z11 z12
        obtain ⟨⟨z4, z5, z6, z7, z8, z9⟩, z10, z11, z12⟩ := HKX.out _ HB3.out
        go_wp2_with fail
        refine HI.out.mono ?_
        rintro e X4 ⟨rfl, hb4⟩
        have HB4 := hide (HB3.out.trans (hb4.mono HB3.out.size))
        clear hb4 z4 z5 z6 z7 z8 z9 z10 z11 z12
        obtain ⟨⟨z4, z5, z6, z7, z8, z9⟩, z10, z11, z12⟩ := HKX.out _ HB4.out
        rw [HSM.out]
        go_wp2_with fail
        refine (HPL.out _ HB4.out).mono ?_
        rintro e X5 ⟨A, k, c, rfl, ho, hb5⟩
        have HO := hide (And.intro ho hb5)
        clear ho hb5
        go_wp2
        go_ret2
        have hq := HX.out _ HB4.out
        have hB5 := hq.trans (HO.out.2.mono hq.size)
        have ho := org_mono HO.out.1 hq.size
        by_cases h8 : (plR (pmS ms) L m b s).length ≤ 8
        · rw [if_pos h8] at ho
          rw [decide_eq_true h8]
          exact pn_ok hB5 ho HC.out.1 HC.out.2.1 HC.out.2.2 (by have := (or_rs ho).1; omega)
        · rw [if_neg h8] at ho
          rw [decide_eq_false h8]
          exact pn_no hB5 ho (fun h => h8 h.2.2.2)
      · have HNO := hide c3
        have HSM := hide (show decide (s ∈ slF L b) = false by rw [decide_eq_false_iff_not, slF_mem]; exact c3)
        clear c1 c2' c3 HPL0
        go_enter Tryz.func31, Tryz.ntmps31
        go_wp2_with (rw [← HW.out])
        refine HR.out.mono ?_
        rintro e X1 ⟨rfl, hb1⟩
        have HB1 := hide hb1
        clear hb1 z4 z5 z6 z7 z8 z9 z10 z11 z12
        obtain ⟨⟨z4, z5, z6, z7, z8, z9⟩, z10, z11, z12⟩ := HKX.out _ HB1.out
        go_wp2_with fail
        refine (HT.out _ HB1.out).mono ?_
        rintro e X2 ⟨rfl, hb2⟩
        have HB2 := hide hb2
        clear hb2 z4 z5 z6 z7 z8 z9 z10 z11 z12
        obtain ⟨⟨z4, z5, z6, z7, z8, z9⟩, z10, z11, z12⟩ := HKX.out _ HB2.out
        go_wp2_with fail
        refine (HS.out _ HB2.out).mono ?_
        rintro e X3 ⟨ra, rn, rc, rfl, hI, hb3⟩
        have HB3 := hide hb3
        have HI := hide (sliceHasI_any ra rn rc (slF L b) s X3 hI)
        clear hb3 hI z4 z5 z6 z7 z8 z9 z10 z11 z12
        obtain ⟨⟨z4, z5, z6, z7, z8, z9⟩, z10, z11, z12⟩ := HKX.out _ HB3.out
        go_wp2_with fail
        refine HI.out.mono ?_
        rintro e X4 ⟨rfl, hb4⟩
        have HB4 := hide (HB3.out.trans (hb4.mono HB3.out.size))
        clear hb4 z4 z5 z6 z7 z8 z9 z10 z11 z12
        obtain ⟨⟨z4, z5, z6, z7, z8, z9⟩, z10, z11, z12⟩ := HKX.out _ HB4.out
        rw [HSM.out]
        go_wp2
        go_ret2
        exact pn_no (HX.out _ HB4.out) (org_nil _ _) (fun h => HNO.out h.2.2.1)
    · rw [decide_eq_false c2'] at HT
      have HC := hide (show ¬ 0 ≤ pcq (pmS ms) m b from c2')
      clear c1 c2'
      go_enter Tryz.func31, Tryz.ntmps31
      go_wp2_with (rw [← HW.out])
      refine HR.out.mono ?_
      rintro e X1 ⟨rfl, hb1⟩
      have HB1 := hide hb1
      clear hb1 z4 z5 z6 z7 z8 z9 z10 z11 z12
      obtain ⟨⟨z4, z5, z6, z7, z8, z9⟩, z10, z11, z12⟩ := HKX.out _ HB1.out
      go_wp2_with fail
      refine (HT.out _ HB1.out).mono ?_
      rintro e X2 ⟨rfl, hb2⟩
      have HB2 := hide hb2
      clear hb2 z4 z5 z6 z7 z8 z9 z10 z11 z12
      obtain ⟨⟨z4, z5, z6, z7, z8, z9⟩, z10, z11, z12⟩ := HKX.out _ HB2.out
      go_wp2
      go_ret2
      exact pn_no (HX.out _ HB2.out) (org_nil _ _) (fun h => absurd h.2.1 (by have := HC.out; omega))
  · rw [decide_eq_false c1] at HR
    have HC := hide c1
    clear c1
    go_enter Tryz.func31, Tryz.ntmps31
    go_wp2_with (rw [← HW.out])
    refine HR.out.mono ?_
    rintro e X1 ⟨rfl, hb1⟩
    have HB1 := hide hb1
    clear hb1 z4 z5 z6 z7 z8 z9 z10 z11 z12
    obtain ⟨⟨z4, z5, z6, z7, z8, z9⟩, z10, z11, z12⟩ := HKX.out _ HB1.out
    go_wp2
    go_ret2
    exact pn_no (HX.out _ HB1.out) (org_nil _ _) (fun h => HC.out h.1)
end Go.Proofs.YtngdgogjlpjjpaeGreat

namespace Go.Proofs.YtngdgogjlpjjpaeGreat
open Go.RowKit
set_option linter.unusedVariables false
set_option linter.unusedSimpArgs false
set_option maxRecDepth 100000

section
variable {α : Type} (f : α → List Value) (sz : Nat) (hf : ∀ x, (f x).length = sz) (z : α)
include hf
theorem flat_len : ∀ xs : List α, (xs.flatMap f).length = xs.length * sz
  | [] => by simp
  | x :: xs => by simp only [List.flatMap_cons, List.length_append, List.length_cons, flat_len xs, hf x]; rw [Nat.add_mul]; omega
theorem flat_get : ∀ (xs : List α) (i j : Nat), i < xs.length → j < sz → (xs.flatMap f)[i * sz + j]? = (f (xs.getD i z))[j]?
  | [], i, j, h, _ => by simp at h
  | x :: xs, 0, j, h, hj => by simp [List.getElem?_append_left (show j < (f x).length by rw [hf]; exact hj)]
  | x :: xs, i + 1, j, h, hj => by
    have ih := flat_get xs i j (by simpa using h) hj
    have e : (i + 1) * sz + j = (f x).length + (i * sz + j) := by rw [hf, Nat.add_mul]; omega
    rw [List.flatMap_cons, e, List.getElem?_append_right (by omega), Nat.add_sub_cancel_left, ih]
    simp
theorem take_flat {cs : Array Value} {xs : List α} (h : cs.size = xs.length * sz) (hs : 0 < sz) (hc : ∀ i, i < xs.length → ∀ j, j < sz → cs[i * sz + j]? = (f (xs.getD i z))[j]?) : cs.toList.take (xs.length * sz) = xs.flatMap f := by
  apply List.ext_getElem?
  intro k
  by_cases hk : k < xs.length * sz
  · have e : k = k / sz * sz + k % sz := by rw [Nat.mul_comm]; exact (Nat.div_add_mod k sz).symm
    have h1 : k / sz < xs.length := by rw [Nat.div_lt_iff_lt_mul hs]; exact hk
    have h2 : k % sz < sz := Nat.mod_lt _ hs
    rw [List.getElem?_take, if_pos hk, Array.getElem?_toList]
    rw [e, hc _ h1 _ h2, flat_get f sz hf z xs _ _ h1 h2]
  · rw [List.getElem?_eq_none (by simp; omega), List.getElem?_eq_none (by rw [flat_len f sz hf]; omega)]
end
/-- A ROW of n things of sz cells, in a block of its own -/
def RowF {α : Type} (t : TypeId) (sz : Nat) (f : α → List Value) (w : World) (g n : Nat) (F : Nat → α) : Prop :=
  ∃ cs, Blk w g cs t ∧ cs.size = n * sz ∧ ∀ i, i < n → ∀ j, j < sz → cs[i * sz + j]? = (f (F i))[j]?
section
variable {α : Type} {t : TypeId} {sz : Nat} {f : α → List Value} {w w' : World} {g n : Nat} {F : Nat → α}
theorem RowF.below (h : RowF t sz f w g n F) (hb : Below w.heap.size w w') : RowF t sz f w' g n F := by
  obtain ⟨cs, h1, h2, h3⟩ := h
  exact ⟨cs, h1.below hb, h2, h3⟩
theorem RowF.lt (h : RowF t sz f w g n F) : g < w.heap.size := by obtain ⟨cs, h1, _⟩ := h; exact h1.lt
theorem RowF.blk (h : RowF t sz f w g n F) : ∃ cs, Blk w g cs t := by obtain ⟨cs, h1, _⟩ := h; exact ⟨cs, h1⟩
theorem RowF.cell (h : RowF t sz f w g n F) (hf : ∀ x, (f x).length = sz) (i j : Nat) (hi : i < n) (hj : j < sz) (v : Value) (hv : (f (F i))[j]? = some v) : w.cell? ⟨g, i * sz + j, none⟩ = some v := by
  obtain ⟨cs, h1, h2, h3⟩ := h
  rw [h1.cell, h3 i hi j hj, hv]
theorem RowF.og (h : RowF t sz f w g n F) (hf : ∀ x, (f x).length = sz) (hs : 0 < sz) {base : Nat} (hg : base ≤ g) (hn : n ≤ maxLen) {xs : List α} (hl : xs.length = n) (z : α) (he : ∀ i, i < n → F i = xs.getD i z) : OG t sz f w base (.slice (some ⟨g, 0, none⟩) n n) xs := by
  obtain ⟨cs, h1, h2, h3⟩ := h
  subst hl
  refine ⟨flat_len f sz hf xs, .inr ⟨g, xs.length, cs, rfl, hg, h1, Nat.le_refl _, hn, h2, take_flat f sz hf z h2 hs (fun i hi j hj => ?_)⟩⟩
  rw [h3 i hi j hj, he i hi]
theorem rowF_made (z0 : α) (v : Value) (hv : v.cells.toList = f z0) (hs : sz = v.cells.size) {base : Nat} (h : w.ownsRow base t sz (.slice (some ⟨g, 0, none⟩) n n) n (madeCells v.cells (n * sz)).toList) : RowF t sz f w g n (fun _ => z0) := by
  obtain ⟨hl, h | ⟨g', cap, cur, hv', hb, hh, h1, h2, h3, h4⟩⟩ := h
  · simp at h
  · simp at hv'
    obtain ⟨rfl, rfl⟩ := hv'
    have e : cur.toList = (madeCells v.cells (n * sz)).toList := by
      rw [← h4, List.take_of_length_le (by simp [h3])]
    have e2 : cur = madeCells v.cells (n * sz) := Array.toList_inj.1 e
    refine ⟨cur, hh, h3, fun i hi j hj => ?_⟩
    have hlt : i * sz + j < n * sz := by
      have : (i + 1) * sz ≤ n * sz := Nat.mul_le_mul_right _ (by omega)
      rw [Nat.add_mul] at this
      omega
    have hm : (i * sz + j) % v.cells.size = j := by rw [← hs, Nat.mul_comm, Nat.mul_add_mod]; exact Nat.mod_eq_of_lt hj
    rw [e2, ← hv]
    simp [madeCells, hlt, hm, show j < v.cells.size by omega]
theorem ar_at {cs : Array Value} {i : Nat} {v : Value} (h : i < cs.size) : (cs.setIfInBounds i v)[i]? = some v := by simp [h]
/-- one thing laid anew, cell by cell -/
theorem RowF.set1 (h : RowF t 1 f w g n F) (m : Nat) (hm : m < n) (x : α) (a : Value) (hx : f x = [a]) : RowF t 1 f (w.setCell ⟨g, m, none⟩ a) g n (fun i => if i = m then x else F i) := by
  obtain ⟨cs, h1, h2, h3⟩ := h
  refine ⟨_, h1.set m a, by simp [h2], fun i hi j hj => ?_⟩
  by_cases e : i = m
  · subst e
    obtain rfl : j = 0 := by omega
    simp [hx, h2, hi]
  · simp only [e, if_false]
    rw [Array.getElem?_setIfInBounds_ne (by omega)]
    exact h3 i hi j hj
theorem RowF.set3 (h : RowF t 3 f w g n F) (m : Nat) (hm : m < n) (x : α) (a b c : Value) (hx : f x = [a, b, c]) : RowF t 3 f (((w.setCell ⟨g, m * 3, none⟩ a).setCell ⟨g, m * 3 + 1, none⟩ b).setCell ⟨g, m * 3 + 2, none⟩ c) g n (fun i => if i = m then x else F i) := by
  obtain ⟨cs, h1, h2, h3⟩ := h
  refine ⟨_, ((h1.set (m * 3) a).set (m * 3 + 1) b).set (m * 3 + 2) c, by simp [h2], fun i hi j hj => ?_⟩
  by_cases e : i = m
  · subst e
    simp only [if_true, hx]
    match j, hj with
    | 0, _ => exact ar_other (ar_other (ar_at (by rw [h2]; omega)) (by omega)) (by omega)
    | 1, _ => exact ar_other (ar_at (by simp [h2]; omega)) (by omega)
    | 2, _ => exact ar_at (by simp [h2]; omega)
  · simp only [e, if_false]
    rw [Array.getElem?_setIfInBounds_ne (by omega), Array.getElem?_setIfInBounds_ne (by omega), Array.getElem?_setIfInBounds_ne (by omega)]
    exact h3 i hi j hj
theorem RowF.set4 (h : RowF t 4 f w g n F) (m : Nat) (hm : m < n) (x : α) (a b c d : Value) (hx : f x = [a, b, c, d]) : RowF t 4 f ((((w.setCell ⟨g, m * 4, none⟩ a).setCell ⟨g, m * 4 + 1, none⟩ b).setCell ⟨g, m * 4 + 2, none⟩ c).setCell ⟨g, m * 4 + 3, none⟩ d) g n (fun i => if i = m then x else F i) := by
  obtain ⟨cs, h1, h2, h3⟩ := h
  refine ⟨_, (((h1.set (m * 4) a).set (m * 4 + 1) b).set (m * 4 + 2) c).set (m * 4 + 3) d, by simp [h2], fun i hi j hj => ?_⟩
  by_cases e : i = m
  · subst e
    simp only [if_true, hx]
    match j, hj with
    | 0, _ => exact ar_other (ar_other (ar_other (ar_at (by rw [h2]; omega)) (by omega)) (by omega)) (by omega)
    | 1, _ => exact ar_other (ar_other (ar_at (by simp [h2]; omega)) (by omega)) (by omega)
    | 2, _ => exact ar_other (ar_at (by simp [h2]; omega)) (by omega)
    | 3, _ => exact ar_at (by simp [h2]; omega)
  · simp only [e, if_false]
    rw [Array.getElem?_setIfInBounds_ne (by omega), Array.getElem?_setIfInBounds_ne (by omega), Array.getElem?_setIfInBounds_ne (by omega), Array.getElem?_setIfInBounds_ne (by omega)]
    exact h3 i hi j hj
end
/-- heads that were made at once, with a row each -/
structure HR {α β : Type} (th : TypeId) (hs : Nat) (hc : α → List Value) (tr : TypeId) (rs : Nat) (rc : β → List Value) (sv : α → Value) (ct : α → List β) (w : World) (base g n : Nat) (f : Nat → α) : Prop where
  head : RowF th hs hc w g n f
  rows : ∀ i, i < n → OG tr rs rc w base (sv (f i)) (ct (f i))
  apart : ∀ i j, i < n → j < n → i ≠ j → ∀ k, (sv (f i)).ownBlock = some k → (sv (f j)).ownBlock ≠ some k
section
variable {α β : Type} {th : TypeId} {hs : Nat} {hc : α → List Value} {tr : TypeId} {rs : Nat} {rc : β → List Value} {sv : α → Value} {ct : α → List β} {w w' : World} {base g n : Nat} {f : Nat → α}
theorem HR.below (h : HR th hs hc tr rs rc sv ct w base g n f) (hb : Below w.heap.size w w') : HR th hs hc tr rs rc sv ct w' base g n f := ⟨h.head.below hb, fun i hi => (h.rows i hi).below hb, h.apart⟩
theorem HR.put (h : HR th hs hc tr rs rc sv ct w base g n f) (hne : th ≠ tr) {m : Nat} (hm : m < n) {x : α} (R : RowF th hs hc w' g n (fun i => if i = m then x else f i)) (T : Turn (fun j => j = g) w w') (hx : OG tr rs rc w base (sv x) (ct x)) (hap : ∀ i, i < n → i ≠ m → ∀ k, (sv (f i)).ownBlock = some k → (sv x).ownBlock ≠ some k) : HR th hs hc tr rs rc sv ct w' base g n (fun i => if i = m then x else f i) := by
  obtain ⟨cg, kg⟩ := h.head.blk
  have ng : ∀ (v : Value) (ys : List β), OG tr rs rc w base v ys → ∀ k, v.ownBlock = some k → ¬ (fun j => j = g) k := fun v ys ho k hk e => by
    have e' : k = g := e
    subst e'
    obtain ⟨c1, k1⟩ := own_kind ho hk
    exact hne (blk_kind kg k1)
  refine ⟨R, fun i hi => ?_, fun i j hi hj hij k hk => ?_⟩
  · by_cases e : i = m
    · simp only [e, if_true]; exact hx.kept T (ng _ _ hx)
    · simp only [e, if_false]; exact (h.rows i hi).kept T (ng _ _ (h.rows i hi))
  · by_cases e1 : i = m
    · have e2 : ¬ j = m := fun e => hij (e1.trans e.symm)
      simp only [e1, e2, if_true, if_false] at hk ⊢
      exact fun e => hap j hj e2 k e hk
    · by_cases e2 : j = m
      · simp only [e1, e2, if_true, if_false] at hk ⊢
        exact hap i hi e1 k hk
      · simp only [e1, e2, if_false] at hk ⊢
        exact h.apart i j hi hj hij k hk
theorem HR.or (h : HR th hs hc tr rs rc sv ct w base g n f) (hf : ∀ x, (hc x).length = hs) (h0 : 0 < hs) (hg : base ≤ g) (hn : n ≤ maxLen) (z : α) {xs : List α} (hl : xs.length = n) (he : ∀ i, i < n → f i = xs.getD i z) : OR th hs hc tr rs rc sv ct w base base (.slice (some ⟨g, 0, none⟩) n n) xs := by
  refine ⟨h.head.og hf h0 hg hn hl z he, fun x hx => ?_, ?_⟩
  · obtain ⟨i, hi, rfl⟩ := List.getElem_of_mem hx
    have := h.rows i (by omega)
    rw [he i (by omega)] at this
    simpa [List.getD_eq_getElem?_getD, hi] using this
  · rw [List.pairwise_iff_getElem]
    intro i j hi hj hij k hk
    have := h.apart i j (by omega) (by omega) (by omega) k
    rw [he i (by omega), he j (by omega)] at this
    simp only [List.getD_eq_getElem?_getD, List.getElem?_eq_getElem hi, List.getElem?_eq_getElem hj, Option.getD_some] at this
    exact this hk
end
end Go.Proofs.YtngdgogjlpjjpaeGreat

namespace Go.Proofs.YtngdgogjlpjjpaeGreat
open Go.RowKit
set_option linter.unusedVariables false
set_option linter.unusedSimpArgs false
set_option maxRecDepth 100000

set_option maxHeartbeats 1000000 in
theorem toTarget_any (x y z : Int) (w : World) :
    Calls Tryz.prog 30 #[.agg #[.int .i64 x, .int .i64 y, .int .i64 z]] w fun e w' => e = .returned (.agg #[.int .i64 x, .int .i64 y, .int .i64 z]) ∧ Below w.heap.size w w' := by
  go_enter Tryz.func30, Tryz.ntmps30
  go_wp2
  refine bodyPost_ret (v := .agg #[.int .i64 x, .int .i64 y, .int .i64 z]) (by simp [results, Tryz.results30, go_sem]) rfl ⟨rfl, ?_⟩
  exact ((((Below.refl _ _).alloc (Nat.le_refl _) _).alloc (by simp) _).alloc (by simp; omega) _)
theorem clG_len : ∀ x : Tg, (clG x).length = 3 := fun x => rfl

set_option maxHeartbeats 2000000 in
theorem toTargetS_any (a : Option Addr) (n cap : Nat) (zs : List Tg) (w : World) (h : TgS w a n cap zs) (hn : n ≤ 1048576) :
    Calls Tryz.prog 141 #[.slice a n cap] w fun e w' => e = .returned (.slice (some ⟨w.heap.size, 0, none⟩) n n) ∧ OG 71 3 clG w' w.heap.size (.slice (some ⟨w.heap.size, 0, none⟩) n n) zs ∧ Below w.heap.size w w' := by
  obtain ⟨i0, hi, hz0, hz1, hz2⟩ := info_parts infoG
  have hl := h.1
  go_enter Tryz.func141, Tryz.ntmps141
  go_wp2_with (at_make; refine wpList_make_full _ rfl _ _ 189 rfl w.heap.size 71 i0 (.agg #[.int .i64 0, .int .i64 0, .int .i64 0]) 3 Tryz.underlying189 hi hz0 hz1 .i64 .i64 _ _ n rfl rfl rfl rfl (by rw [hz2]; omega) (by unfold maxLen; omega) (Nat.le_refl _) ?_; intro w1 hown hgr)
  have HR0 := hide (And.intro (rowF_made (f := clG) zT (.agg #[.int .i64 0, .int .i64 0, .int .i64 0]) rfl rfl hown) (below_grown hgr))
  clear hown hgr hi hz0 hz1 hz2
  go_loopw [4] (fun i wr => ∃ (m : Nat) (F : Nat → Tg), m ≤ n ∧ i = .int .i64 m ∧ RowF 71 3 clG wr w.heap.size n F ∧ (∀ i, i < m → F i = zs.getD i zT) ∧ Below w.heap.size w wr) (fun i _ => n - (intOf i).toNat)
  case atStart => exact ⟨0, _, Nat.zero_le _, rfl, HR0.out.1, fun i hi => absurd hi (by omega), HR0.out.2⟩
  case round =>
    obtain ⟨m, F, hm, rfl, R, hF, hB⟩ := hrel
    clear HR0
    by_cases hlt : m < n
    · have hlt' : (m : Int) < (n : Int) := by omega
      obtain ⟨b, off, rfl, y0, y1, y2⟩ := (h.below hB).at m hlt
      have HFIN := hide (fun (W : World) (hW : Below wr.heap.size wr W) => show RowF 71 3 clG (((W.setCell ⟨w.heap.size, m * 3, none⟩ (.int .i64 (zs.getD m zT).1)).setCell ⟨w.heap.size, m * 3 + 1, none⟩ (.int .i64 (zs.getD m zT).2.1)).setCell ⟨w.heap.size, m * 3 + 2, none⟩ (.int .i64 (zs.getD m zT).2.2)) w.heap.size n (fun i => if i = m then zs.getD m zT else F i) ∧ Below w.heap.size w (((W.setCell ⟨w.heap.size, m * 3, none⟩ (.int .i64 (zs.getD m zT).1)).setCell ⟨w.heap.size, m * 3 + 1, none⟩ (.int .i64 (zs.getD m zT).2.1)).setCell ⟨w.heap.size, m * 3 + 2, none⟩ (.int .i64 (zs.getD m zT).2.2)) from
        ⟨(R.below hW).set3 m hlt _ _ _ _ rfl, (((hB.trans (hW.mono hB.size)).setCell (p := ⟨w.heap.size, m * 3, none⟩) (Nat.le_refl _) _).setCell (p := ⟨w.heap.size, m * 3 + 1, none⟩) (Nat.le_refl _) _).setCell (p := ⟨w.heap.size, m * 3 + 2, none⟩) (Nat.le_refl _) _⟩)
      have HCE := hide (fun (W : World) (hW : Below wr.heap.size wr W) => show (∃ u, W.cell? ⟨w.heap.size, m * 3, none⟩ = some u) ∧ (∃ u, W.cell? ⟨w.heap.size, m * 3 + 1, none⟩ = some u) ∧ (∃ u, W.cell? ⟨w.heap.size, m * 3 + 2, none⟩ = some u) ∧ ∀ i, W.frozen? ⟨w.heap.size, i, none⟩ = false from
        ⟨⟨_, (R.below hW).cell clG_len m 0 hlt (by omega) _ rfl⟩, ⟨_, (R.below hW).cell clG_len m 1 hlt (by omega) _ rfl⟩, ⟨_, (R.below hW).cell clG_len m 2 hlt (by omega) _ rfl⟩, by obtain ⟨cs, hk⟩ := (R.below hW).blk; exact hk.frozen⟩)
      have HF2 := hide (show ∀ i, i < m + 1 → (if i = m then zs.getD m zT else F i) = zs.getD i zT from fun i hi => by
        by_cases e : i = m
        · rw [if_pos e, e]
        · rw [if_neg e]; exact hF i (by omega))
      clear R hB hF
      generalize zs.getD m zT = x at *
      obtain ⟨x0, x1, x2⟩ := x
      dsimp only at y0 y1 y2
      go_wp2_with fail
      refine (toTarget_any x0 x1 x2 _).mono ?_
      rintro e w2 ⟨rfl, hb2⟩
      obtain ⟨⟨u0, p0⟩, ⟨u1, p1⟩, ⟨u2, p2⟩, pf⟩ := HCE.out w2 hb2
      have HX := hide (HFIN.out w2 hb2)
      clear HFIN HCE y0 y1 y2 hb2
      go_wp2
      go_roundw
      case rel => exact ⟨m + 1, _, by omega, by go_num, HX.out.1, HF2.out, HX.out.2⟩
      case measure => simp [intOf]; omega
    · have e : Hid (m = n) := by show m = n; omega
      have HX := hide (And.intro R hB)
      clear R hB
      go_wp2
      go_ret
      exact ⟨rfl, HX.out.1.og clG_len (by omega) (Nat.le_refl _) h.2.1 hl zT (fun i hi => hF i (by rw [e.out]; exact hi)), HX.out.2⟩
theorem clTB_len : ∀ x : TB, (clTB x).length = 1 := fun x => rfl
abbrev HTg := HR 189 1 clTB 71 3 clG svT ctT
/-- a row that was copied -/
def cpT (g : Nat) (x : TB) : TB := (x.1, some ⟨g, 0, none⟩, x.1.length)

set_option maxHeartbeats 2000000 in
theorem toTargetSS_any (a : Option Addr) (n cap : Nat) (ts : List TB) (w : World) (h : TsS w a n cap ts) (hn : n ≤ 1048576) (hr : ∀ i, i < n → (ts.getD i zTB).1.length ≤ 1048576) :
    Calls Tryz.prog 55 #[.slice a n cap] w fun e w' => ∃ ts', ts'.map (fun x => x.1) = ts.map (fun x => x.1) ∧ e = .returned (.slice (some ⟨w.heap.size, 0, none⟩) n n) ∧ OTg w' w.heap.size w.heap.size (.slice (some ⟨w.heap.size, 0, none⟩) n n) ts' ∧ Below w.heap.size w w' := by
  obtain ⟨i0, hi, hz0, hz1, hz2⟩ := info_parts infoTB
  have hl := h.1
  go_enter Tryz.func55, Tryz.ntmps55
  go_wp2_with (at_make; refine wpList_make_full _ rfl _ _ 34 rfl w.heap.size 189 i0 (.slice none 0 0) 1 Tryz.underlying34 hi hz0 hz1 .i64 .i64 _ _ n rfl rfl rfl rfl (by rw [hz2]; omega) (by unfold maxLen; omega) (Nat.le_refl _) ?_; intro w1 hown hgr)
  have HR0 := hide (And.intro (show HTg w1 w.heap.size w.heap.size n (fun _ => zTB) from ⟨rowF_made (f := clTB) zTB (.slice none 0 0) rfl rfl hown, fun i hi => og_nil _ _ _ _ _, fun i j _ _ _ k hk => by simp [svT, zTB, Value.ownBlock] at hk⟩) (below_grown hgr))
  clear hown hgr hi hz0 hz1 hz2
  go_loopw [4] (fun i wr => ∃ (m : Nat) (F : Nat → TB), m ≤ n ∧ i = .int .i64 m ∧ HTg wr w.heap.size w.heap.size n F ∧ (∀ i, i < m → (F i).1 = (ts.getD i zTB).1) ∧ Below w.heap.size w wr) (fun i _ => n - (intOf i).toNat)
  case atStart => exact ⟨0, _, Nat.zero_le _, rfl, HR0.out.1, fun i hi => absurd hi (by omega), HR0.out.2⟩
  case round =>
    obtain ⟨m, F, hm, rfl, R, hF, hB⟩ := hrel
    clear HR0
    by_cases hlt : m < n
    · have hlt' : (m : Int) < (n : Int) := by omega
      obtain ⟨b, off, rfl, y0⟩ := (h.below hB).at m hlt
      have hrow := (h.below hB).2.2.2.1 m hlt
      have HTS := hide (toTargetS_any _ _ _ _ wr hrow (hr m hlt))
      have HFIN := hide (fun (W : World) (hW : Below wr.heap.size wr W) (O : OG 71 3 clG W wr.heap.size (.slice (some ⟨wr.heap.size, 0, none⟩) (ts.getD m zTB).1.length (ts.getD m zTB).1.length) (ts.getD m zTB).1) => show HTg (W.setCell ⟨w.heap.size, m, none⟩ (.slice (some ⟨wr.heap.size, 0, none⟩) (ts.getD m zTB).1.length (ts.getD m zTB).1.length)) w.heap.size w.heap.size n (fun i => if i = m then cpT wr.heap.size (ts.getD m zTB) else F i) ∧ Below w.heap.size w (W.setCell ⟨w.heap.size, m, none⟩ (.slice (some ⟨wr.heap.size, 0, none⟩) (ts.getD m zTB).1.length (ts.getD m zTB).1.length)) from
        ⟨(R.below hW).put (by decide) hlt ((R.below hW).head.set1 m hlt _ _ rfl) (turn_set _ _ _ _) (O.mono hB.size) (fun i hi _ k hk e => by
          have h1 := ((R.rows i hi).lt k hk).2
          simp [svT, cpT, Value.ownBlock] at e
          omega), (hB.trans (hW.mono hB.size)).setCell (p := ⟨w.heap.size, m, none⟩) (Nat.le_refl _) _⟩)
      have HCE := hide (fun (W : World) (hW : Below wr.heap.size wr W) => show (∃ u, W.cell? ⟨w.heap.size, m, none⟩ = some u) ∧ ∀ i, W.frozen? ⟨w.heap.size, i, none⟩ = false from
        ⟨⟨_, by have := (R.below hW).head.cell clTB_len m 0 hlt (by omega) _ rfl; simpa using this⟩, by obtain ⟨cs, hk⟩ := (R.below hW).head.blk; exact hk.frozen⟩)
      have HF2 := hide (show ∀ i, i < m + 1 → (if i = m then cpT wr.heap.size (ts.getD m zTB) else F i).1 = (ts.getD i zTB).1 from fun i hi => by
        by_cases e : i = m
        · rw [if_pos e, e]; rfl
        · rw [if_neg e]; exact hF i (by omega))
      clear R hB hF hrow
      unfold svT at y0
      generalize ts.getD m zTB = x at *
      obtain ⟨x0, x1, x2⟩ := x
      dsimp only at y0 HTS HFIN
      go_wp2_with fail
      refine HTS.out.mono ?_
      rintro e w2 ⟨rfl, O2, hb2⟩
      obtain ⟨⟨u0, p0⟩, pf⟩ := HCE.out w2 hb2
      have HX := hide (HFIN.out w2 hb2 O2)
      clear HFIN HCE y0 hb2 O2 HTS
      go_wp2
      go_roundw
      case rel => exact ⟨m + 1, _, by omega, by go_num, HX.out.1, HF2.out, HX.out.2⟩
      case measure => simp [intOf]; omega
    · have e : Hid (m = n) := by show m = n; omega
      have HX := hide (And.intro R hB)
      clear R hB
      go_wp2
      go_ret
      refine ⟨(List.range n).map F, ?_, rfl, HX.out.1.or clTB_len (by omega) (Nat.le_refl _) h.2.1 zTB (by simp) (fun i hi => by simp [List.getD_eq_getElem?_getD, hi]), HX.out.2⟩
      apply List.ext_getElem
      · simp [hl]
      · intro i h1 h2
        simp at h1 h2
        have := hF i (by rw [e.out]; exact h1)
        simpa [List.getD_eq_getElem?_getD, h2] using this
end Go.Proofs.YtngdgogjlpjjpaeGreat
