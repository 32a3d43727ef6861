import Derived.Test.YtngdgogjlpjjpaeGreatGb07
import Derived.Test.YtngdgogjlpjjpaeGreatGb08
import Derived.Test.YtngdgogjlpjjpaeGreatGb04
import Derived.Deep.RegionHeld3
import Derived.Deep.RegionWith
import Derived.Test.YtngdgogjlpjjpaeGreatGa35
namespace Go.Proofs.YtngdgogjlpjjpaeGreat
open Go.RowKit Classical
set_option linter.unusedVariables false
set_option linter.unusedSimpArgs false
set_option maxRecDepth 100000

theorem slF_mem (L : Lay) (b s : Int) : s ∈ slF L b ↔ sOk L b s := by
  unfold slF sOk
  by_cases c : b = -1 ∨ L.slots = []
  · rw [if_pos c, if_pos c]; simp
  · rw [if_neg c, if_neg c]
    simp only [List.mem_map, List.mem_range]
    constructor
    · rintro ⟨i, hi, rfl⟩; omega
    · intro h; exact ⟨s.toNat, by omega, by omega⟩
theorem lok_slots {ps : List PMod} {L : Lay} (h : Lok ps L) : L.slots.length ≤ 4 := by
  obtain ⟨hc, _⟩ := lkc_facts h.1
  unfold cfo at hc
  simp at hc
  omega
set_option maxHeartbeats 1000000 in
theorem slotsFor_any (L : Lay) (a0 : Option Addr) (c0 : Nat) (xs : List PB) (a2 : Option Addr) (c2 : Nat) (a5 : Option Addr) (c5 : Nat) (ts : List TB) (b : Int) (w : World) (h : LyT w L a0 c0 xs a2 c2 a5 c5 ts) (hl : L.slots.length ≤ 4) :
    Calls Tryz.prog 101 #[.agg #[.slice a0 xs.length c0, .int .i64 L.stack, .slice a2 L.slots.length c2, .int .i64 L.flash, .int .i64 L.ram, .slice a5 ts.length c5], .int .i64 b] w fun e w' => ∃ a n c, e = .returned (.slice a n c) ∧ IS w' a n c (slF L b) ∧ Below w.heap.size w w' := by
  by_cases c : b = -1 ∨ L.slots = []
  · exact (slotsFor_one L a0 c0 xs a2 c2 a5 c5 ts b w h c).mono fun e w' ⟨a, c, he, hi, hb⟩ => ⟨a, _, c, he, hi, hb⟩
  · refine (slotsFor_many L a0 c0 xs a2 c2 a5 c5 ts b L.slots.length w (fun e => c (.inl e)) (fun e => c (.inr (List.eq_nil_of_length_eq_zero e))) (by omega)).mono ?_
    rintro e w' ⟨g, rfl, hr, hb⟩
    have e2 : slF L b = upTo L.slots.length := by unfold slF upTo; rw [if_neg c]
    rw [e2]
    refine ⟨_, _, _, rfl, ⟨upTo_len _, by unfold maxLen; omega, fun z hz => ?_, fun _ => ⟨g, 0, rfl, fun i hi => ?_⟩, Nat.le_refl _⟩, hb⟩
    · simp only [upTo, List.mem_map, List.mem_range] at hz
      obtain ⟨i, hi, rfl⟩ := hz
      unfold wfi
      omega
    · rw [Nat.zero_add]
      exact hr.cell i (by rw [upTo_len]; exact hi)
set_option maxHeartbeats 4000000 in
theorem iPlan_any (a : Option Addr) (n cap : Nat) (ms : List Md) (L : Lay) (a0 : Option Addr) (c0 : Nat) (xs : List PB) (a2 : Option Addr) (c2 : Nat) (a5 : Option Addr) (c5 : Nat) (ts : List TB) (m b at' s : Int) (w : World) (h : MSD w a n cap ms) (hL : LyT w L a0 c0 xs a2 c2 a5 c5 ts) :
    Calls Tryz.prog 31 #[.slice a n cap, .agg #[.slice a0 xs.length c0, .int .i64 L.stack, .slice a2 L.slots.length c2, .int .i64 L.flash, .int .i64 L.ram, .slice a5 ts.length c5], .agg #[.int .i64 m, .int .i64 b, .int .i64 at'], .int .i64 s] w (PnPost w (pmS ms) L m b s) := by
  obtain ⟨W, hW⟩ : ∃ W, W = (w.alloc (.cells #[.slice a0 xs.length c0, .int .i64 L.stack, .slice a2 L.slots.length c2, .int .i64 L.flash, .int .i64 L.ram, .slice a5 ts.length c5] 36)).alloc (.cells #[.int .i64 m, .int .i64 b, .int .i64 at'] 71) := ⟨_, rfl⟩
  have hB : Below w.heap.size w W := by rw [hW]; exact ((Below.refl _ _).alloc (Nat.le_refl _) _).alloc (by simp) _
  have k0 : Blk W w.heap.size #[.slice a0 xs.length c0, .int .i64 L.stack, .slice a2 L.slots.length c2, .int .i64 L.flash, .int .i64 L.ram, .slice a5 ts.length c5] 36 := by rw [hW]; exact (Blk.new w _ _).alloc _
  have k1 : Blk W (w.heap.size + 1) #[.int .i64 m, .int .i64 b, .int .i64 at'] 71 := by rw [hW]; have := Blk.new (w.alloc (.cells #[.slice a0 xs.length c0, .int .i64 L.stack, .slice a2 L.slots.length c2, .int .i64 L.flash, .int .i64 L.ram, .slice a5 ts.length c5] 36)) #[.int .i64 m, .int .i64 b, .int .i64 at'] 71; simpa using this
  have HBV := hide hB
  have HK0 := hide (And.intro k0 k1)
  have HM := hide (h.below hB)
  have HL2 := hide (hL.below hB)
  have HW := hide hW
  have HKX := hide (show ∀ X, Below W.heap.size W X → (X.cell? ⟨w.heap.size, 0, none⟩ = some (.slice a0 xs.length c0) ∧ X.cell? ⟨w.heap.size, 1, none⟩ = some (.int .i64 L.stack) ∧ X.cell? ⟨w.heap.size, 2, none⟩ = some (.slice a2 L.slots.length c2) ∧ X.cell? ⟨w.heap.size, 3, none⟩ = some (.int .i64 L.flash) ∧ X.cell? ⟨w.heap.size, 4, none⟩ = some (.int .i64 L.ram) ∧ X.cell? ⟨w.heap.size, 5, none⟩ = some (.slice a5 ts.length c5)) ∧ X.cell? ⟨w.heap.size + 1, 0, none⟩ = some (.int .i64 m) ∧ X.cell? ⟨w.heap.size + 1, 1, none⟩ = some (.int .i64 b) ∧ X.cell? ⟨w.heap.size + 1, 2, none⟩ = some (.int .i64 at') from fun X hz =>
    ⟨(HK0.out.1.below hz).ly6, (HK0.out.2.below hz).cell 0, (HK0.out.2.below hz).cell 1, (HK0.out.2.below hz).cell 2⟩)
  have HX := hide (show ∀ X, Below W.heap.size W X → Below w.heap.size w X from fun X hz => HBV.out.trans (hz.mono HBV.out.size))
  have HR := hide (show Calls Tryz.prog 56 #[.slice a n cap, .agg #[.slice a0 xs.length c0, .int .i64 L.stack, .slice a2 L.slots.length c2, .int .i64 L.flash, .int .i64 L.ram, .slice a5 ts.length c5]] W (fun e w' => e = .returned (.bool (decide (Lok (pmS ms) L))) ∧ Below W.heap.size W w') from layoutOk_any a n cap ms L a0 c0 xs a2 c2 a5 c5 ts W HM.out HL2.out)
  have HT := hide (show ∀ X, Below W.heap.size W X → Calls Tryz.prog 99 #[.slice a n cap, .int .i64 m, .int .i64 b] X (fun e w' => e = .returned (.bool (decide (0 ≤ pcq (pmS ms) m b))) ∧ Below W.heap.size W w') from fun X hz => (isPiece_any a n cap ms m b X (HM.out.below hz).s).mono fun e w' he => ⟨by rw [← pcm_pcq HM.out]; exact he.1, hz.trans (he.2.mono hz.size)⟩)
  clear hW k0 k1 h hL hB
  obtain ⟨⟨z4, z5, z6, z7, z8, z9⟩, z10, z11, z12⟩ := HKX.out _ (Below.refl _ _)
  by_cases c1 : Lok (pmS ms) L
  · rw [decide_eq_true c1] at HR
    by_cases c2' : 0 ≤ pcq (pmS ms) m b
    · rw [decide_eq_true c2'] at HT
      have HS := hide (show ∀ X, Below W.heap.size W X → Calls Tryz.prog 101 #[.agg #[.slice a0 xs.length c0, .int .i64 L.stack, .slice a2 L.slots.length c2, .int .i64 L.flash, .int .i64 L.ram, .slice a5 ts.length c5], .int .i64 b] X (fun e w' => ∃ a n c, e = .returned (.slice a n c) ∧ IS w' a n c (slF L b) ∧ Below W.heap.size W w') from fun X hz => (slotsFor_any L a0 c0 xs a2 c2 a5 c5 ts b X (HL2.out.below hz) (lok_slots c1)).mono fun e w' ⟨ra, rn, rc, he, hi, hb⟩ => ⟨ra, rn, rc, he, hi, hz.trans (hb.mono hz.size)⟩)
      have HPL0 := hide (show sOk L b s → ∀ X, Below W.heap.size W X → Calls Tryz.prog 102 #[.slice a n cap, .agg #[.slice a0 xs.length c0, .int .i64 L.stack, .slice a2 L.slots.length c2, .int .i64 L.flash, .int .i64 L.ram, .slice a5 ts.length c5], .agg #[.int .i64 m, .int .i64 b, .int .i64 at'], .int .i64 s] X (PoPost X (plR (pmS ms) L m b s)) from fun hf X hz => planOf_any a n cap ms L a0 c0 xs a2 c2 a5 c5 ts m b at' s X (HM.out.below hz) (HL2.out.below hz) c1 c2' hf.fit)
      by_cases c3 : sOk L b s
      · have HC := hide (And.intro c1 (And.intro c2' c3))
        have HPL := hide (HPL0.out c3)
        have HSM := hide (show decide (s ∈ slF L b) = true by rw [decide_eq_true_eq, slF_mem]; exact c3)
        clear c1 c2' c3 HPL0
        go_enter Tryz.func31, Tryz.ntmps31
        go_wp2_with (rw [← HW.out])
        refine HR.out.mono ?_
        rintro e X1 ⟨rfl, hb1⟩
        have HB1 := hide hb1
        clear hb1 z4 z5 z6 z7 z8 z9 z10 z11 z12
        obtain ⟨⟨z4, z5, z6, z7, z8, z9⟩, z10, z11, z12⟩ := HKX.out _ HB1.out
        go_wp2_with fail
        refine (HT.out _ HB1.out).mono ?_
        rintro e X2 ⟨rfl, hb2⟩
        have HB2 := hide hb2
        clear hb2 z4 z5 z6 z7 z8 z9 z10 z11 z12
        obtain ⟨⟨z4, z5, z6, z7, z8, z9⟩, z10, z11, z12⟩ := HKX.out _ HB2.out
        go_wp2_with fail
        refine (HS.out _ HB2.out).mono ?_
        rintro e X3 ⟨ra, rn, rc, rfl, hI, hb3⟩
        have HB3 := hide hb3
        have HI := hide (sliceHasI_any ra rn rc (slF L b) s X3 hI)
        clear hb3 hI z4 z5 z6 z7 z8 z9 z10 z11 z12
        obtain ⟨⟨z4, z5, z6, z7, z8, z9⟩, z10, z11, z12⟩ := HKX.out _ HB3.out
        go_wp2_with fail
        refine HI.out.mono ?_
        rintro e X4 ⟨rfl, hb4⟩
        have HB4 := hide (HB3.out.trans (hb4.mono HB3.out.size))
        clear hb4 z4 z5 z6 z7 z8 z9 z10 z11 z12
        obtain ⟨⟨z4, z5, z6, z7, z8, z9⟩, z10, z11, z12⟩ := HKX.out _ HB4.out
        rw [HSM.out]
        go_wp2_with fail
        refine (HPL.out _ HB4.out).mono ?_
        rintro e X5 ⟨A, k, c, rfl, ho, hb5⟩
        have HO := hide (And.intro ho hb5)
        clear ho hb5
        go_wp2
        go_ret2
        have hq := HX.out _ HB4.out
        have hB5 := hq.trans (HO.out.2.mono hq.size)
        have ho := org_mono HO.out.1 hq.size
        by_cases h8 : (plR (pmS ms) L m b s).length ≤ 8
        · rw [if_pos h8] at ho
          rw [decide_eq_true h8]
          exact pn_ok hB5 ho HC.out.1 HC.out.2.1 HC.out.2.2 (by have := (or_rs ho).1; omega)
        · rw [if_neg h8] at ho
          rw [decide_eq_false h8]
          exact pn_no hB5 ho (fun h => h8 h.2.2.2)
      · have HNO := hide c3
        have HSM := hide (show decide (s ∈ slF L b) = false by rw [decide_eq_false_iff_not, slF_mem]; exact c3)
        clear c1 c2' c3 HPL0
        go_enter Tryz.func31, Tryz.ntmps31
        go_wp2_with (rw [← HW.out])
        refine HR.out.mono ?_
        rintro e X1 ⟨rfl, hb1⟩
        have HB1 := hide hb1
        clear hb1 z4 z5 z6 z7 z8 z9 z10 z11 z12
        obtain ⟨⟨z4, z5, z6, z7, z8, z9⟩, z10, z11, z12⟩ := HKX.out _ HB1.out
        go_wp2_with fail
        refine (HT.out _ HB1.out).mono ?_
        rintro e X2 ⟨rfl, hb2⟩
        have HB2 := hide hb2
        clear hb2 z4 z5 z6 z7 z8 z9 z10 z11 z12
        obtain ⟨⟨z4, z5, z6, z7, z8, z9⟩, z10, z11, z12⟩ := HKX.out _ HB2.out
        go_wp2_with fail
        refine (HS.out _ HB2.out).mono ?_
        rintro e X3 ⟨ra, rn, rc, rfl, hI, hb3⟩
        have HB3 := hide hb3
        have HI := hide (sliceHasI_any ra rn rc (slF L b) s X3 hI)
        clear hb3 hI z4 z5 z6 z7 z8 z9 z10 z11 z12
        obtain ⟨⟨z4, z5, z6, z7, z8, z9⟩, z10, z11, z12⟩ := HKX.out _ HB3.out
        go_wp2_with fail
        refine HI.out.mono ?_
        rintro e X4 ⟨rfl, hb4⟩
        have HB4 := hide (HB3.out.trans (hb4.mono HB3.out.size))
        clear hb4 z4 z5 z6 z7 z8 z9 z10 z11 z12
        obtain ⟨⟨z4, z5, z6, z7, z8, z9⟩, z10, z11, z12⟩ := HKX.out _ HB4.out
        rw [HSM.out]
        go_wp2
        go_ret2
        exact pn_no (HX.out _ HB4.out) (org_nil _ _) (fun h => HNO.out h.2.2.1)
    · rw [decide_eq_false c2'] at HT
      have HC := hide (show ¬ 0 ≤ pcq (pmS ms) m b from c2')
      clear c1 c2'
      go_enter Tryz.func31, Tryz.ntmps31
      go_wp2_with (rw [← HW.out])
      refine HR.out.mono ?_
      rintro e X1 ⟨rfl, hb1⟩
      have HB1 := hide hb1
      clear hb1 z4 z5 z6 z7 z8 z9 z10 z11 z12
      obtain ⟨⟨z4, z5, z6, z7, z8, z9⟩, z10, z11, z12⟩ := HKX.out _ HB1.out
      go_wp2_with fail
      refine (HT.out _ HB1.out).mono ?_
      rintro e X2 ⟨rfl, hb2⟩
      have HB2 := hide hb2
      clear hb2 z4 z5 z6 z7 z8 z9 z10 z11 z12
      obtain ⟨⟨z4, z5, z6, z7, z8, z9⟩, z10, z11, z12⟩ := HKX.out _ HB2.out
      go_wp2
      go_ret2
      exact pn_no (HX.out _ HB2.out) (org_nil _ _) (fun h => absurd h.2.1 (by have := HC.out; omega))
  · rw [decide_eq_false c1] at HR
    have HC := hide c1
    clear c1
    go_enter Tryz.func31, Tryz.ntmps31
    go_wp2_with (rw [← HW.out])
    refine HR.out.mono ?_
    rintro e X1 ⟨rfl, hb1⟩
    have HB1 := hide hb1
    clear hb1 z4 z5 z6 z7 z8 z9 z10 z11 z12
    obtain ⟨⟨z4, z5, z6, z7, z8, z9⟩, z10, z11, z12⟩ := HKX.out _ HB1.out
    go_wp2
    go_ret2
    exact pn_no (HX.out _ HB1.out) (org_nil _ _) (fun h => HC.out h.1)
end Go.Proofs.YtngdgogjlpjjpaeGreat

namespace Go.Proofs.YtngdgogjlpjjpaeGreat
open Go.RowKit Classical
set_option linter.unusedVariables false

/-- the mark of a region: three numbers and three bits that follow k -/
def mk6 (k : Int) : Rg := (k, k + 1, k + 1 + 1, ((k + 1 + 1 + 1) % 3 == 0), ((k + 1 + 1 + 1 + 1) % 3 == 0), ((k + 1 + 1 + 1 + 1 + 1) % 3 == 0))
def marksR (k n : Nat) : List Rg := (List.range n).map fun i => mk6 ((k + 6 * i : Nat) : Int)
theorem marksR_len (k n : Nat) : (marksR k n).length = n := by simp [marksR]
theorem marksR_getD (k n m : Nat) (h : m < n) : (marksR k n).getD m z6 = mk6 ((k + 6 * m : Nat) : Int) := by simp [marksR, List.getD_eq_getElem?_getD, h]
def mixR (rs : List Rg) (k m : Nat) : List Rg := (List.range rs.length).map fun i => if i < m then mk6 ((k + 6 * i : Nat) : Int) else rs.getD i z6
theorem mixR_zero (rs : List Rg) (k : Nat) : mixR rs k 0 = rs := by
  apply List.ext_getElem
  · simp [mixR]
  · intro i h1 h2; simp [mixR, h2]
theorem mixR_all (rs : List Rg) (k : Nat) : mixR rs k rs.length = marksR k rs.length := by
  apply List.ext_getElem
  · simp [mixR, marksR]
  · intro i h1 h2
    simp [marksR] at h2
    simp [mixR, marksR, h2]
theorem mixR_len (rs : List Rg) (k m : Nat) : (mixR rs k m).length = rs.length := by simp [mixR]
theorem mixR_set (rs : List Rg) (k m : Nat) (h : m < rs.length) : (mixR rs k m).set m (mk6 ((k + 6 * m : Nat) : Int)) = mixR rs k (m + 1) := by
  apply List.ext_getElem
  · simp [mixR]
  · intro i h1 h2
    simp only [mixR, List.getElem_set, List.getElem_map, List.getElem_range]
    by_cases hik : m = i
    · subst hik; simp
    · by_cases h3 : i < m
      · simp [hik, h3, show i < m + 1 by omega]
      · simp [hik, h3, show ¬ i < m + 1 by omega]

set_option maxHeartbeats 1000000 in
theorem markRegionS_some (g n cap : Nat) (rs : List Rg) (k : Nat) (w : World) (hl : rs.length = n) (h : RowW w g rs) (hn : n ≤ 2097152) (hk : k ≤ 4194304) :
    Calls Tryz.prog 33 #[.slice (some ⟨g, 0, none⟩) n cap, .int .i64 k] w fun e w' => e = .returned (.int .i64 ((k + 6 * n : Nat) : Int)) ∧ RowW w' g (marksR k n) ∧ Turn (fun j => j = g) w w' := by
  go_enter Tryz.func33, Tryz.ntmps33
  go_wp2
  go_loopw [1, 5] (fun x i wr => ∃ m : Nat, m ≤ n ∧ i = .int .i64 m ∧ x = .int .i64 ((k + 6 * m : Nat) : Int) ∧ RowW wr g (mixR rs k m) ∧ Turn (fun j => j = g) w wr) (fun _ i _ => n - (intOf i).toNat)
  case atStart => exact ⟨0, Nat.zero_le _, rfl, rfl, by rw [mixR_zero]; exact h, Turn.refl _ _⟩
  case round =>
    obtain ⟨m, hm, rfl, rfl, hO, hT⟩ := hrel
    by_cases hlt : m < n
    · have hlt' : (m : Int) < (n : Int) := by omega
      obtain ⟨p1, p2, p3, p4, p5, p6⟩ := hO.2 m (by rw [mixR_len]; omega)
      have hf := hO.frozen
      have hset := hO.set m (by rw [mixR_len]; omega) (mk6 ((k + 6 * m : Nat) : Int))
      rw [mixR_set rs k m (by omega)] at hset
      have hT2 := hT.trans (set6_turn wr g (m * 6) (mk6 ((k + 6 * m : Nat) : Int)))
      have HO := hide hset
      have HT := hide hT2
      clear hset hT2 hO hT
      obtain ⟨K, hK⟩ : ∃ K : Int, K = ((k + 6 * m : Nat) : Int) := ⟨_, rfl⟩
      have hK0 : 0 ≤ K := by omega
      have hK1 : K ≤ 33554432 := by omega
      have HK := hide (show K + 1 + 1 + 1 + 1 + 1 + 1 = ((k + 6 * (m + 1) : Nat) : Int) by omega)
      rw [← hK] at HO HT ⊢
      clear hK
      go_wp2
      go_roundw
      case rel => exact ⟨m + 1, by omega, by go_num, by rw [HK.out], HO.out, HT.out⟩
      case measure => simp [intOf]; omega
    · have e : Hid (m = n) := by show m = n; omega
      go_wp2
      go_ret
      exact ⟨ret_int (by rw [e.out]), by rw [e.out, ← hl, mixR_all] at hO; rw [hl] at hO; exact hO, hT⟩

set_option maxHeartbeats 1000000 in
theorem markRegionS_zero (a : Option Addr) (cap k : Nat) (w : World) :
    Calls Tryz.prog 33 #[.slice a 0 cap, .int .i64 k] w fun e w' => e = .returned (.int .i64 k) ∧ w = w' := by
  go_enter Tryz.func33, Tryz.ntmps33
  go_wp2
  go_loop [1, 5] (fun x i => i = .int .i64 0 ∧ x = .int .i64 k) (fun _ _ => 0)
  case atStart => exact ⟨rfl, rfl⟩
  case round =>
    obtain ⟨rfl, rfl⟩ := hrel
    go_wp2
    go_ret
    exact ⟨rfl, rfl⟩

theorem markRegionS_any (a : Option Addr) (n cap base : Nat) (rs : List Rg) (k : Nat) (w : World) (h : ORg w base (.slice a n cap) rs) (hn : n ≤ 2097152) (hk : k ≤ 4194304) :
    Calls Tryz.prog 33 #[.slice a n cap, .int .i64 k] w fun e w' => e = .returned (.int .i64 ((k + 6 * n : Nat) : Int)) ∧ RS w' a n cap (marksR k n) ∧ Turn (fun j => base ≤ j ∧ (Value.slice a n cap).ownBlock = some j) w w' := by
  have hr := or_rs h
  have hmx : n ≤ cap := hr.2.2.2.2
  have hml : n ≤ maxLen := hr.2.1
  have hwf : ∀ g ∈ marksR k n, wfi g.1 ∧ wfi g.2.1 ∧ wfi g.2.2.1 := by
    intro g hg
    simp [marksR] at hg
    obtain ⟨i, hi, rfl⟩ := hg
    simp only [mk6, wfi]
    omega
  by_cases h0 : n = 0
  · subst h0
    refine (markRegionS_zero a cap k w).mono fun e w' he => ?_
    obtain ⟨rfl, rfl⟩ := he
    exact ⟨rfl, ⟨rfl, hml, hwf, fun h => absurd rfl h, hmx⟩, Turn.refl _ _⟩
  · obtain ⟨g, rfl, hg⟩ : ∃ g, a = some ⟨g, 0, none⟩ ∧ base ≤ g := by
      obtain ⟨hl, ⟨h0', _⟩ | ⟨g, cap', cur, hv, hg, _⟩⟩ := h.1
      · simp at h0'; exact absurd h0'.2.1 h0
      · simp at hv; exact ⟨g, hv.1, hg⟩
    refine (markRegionS_some g n cap rs k w hr.1 (or_roww h h0) hn hk).mono fun e w' he => ⟨he.1, ⟨marksR_len k n, hml, hwf, fun _ => ⟨g, 0, rfl, fun i hi => ?_⟩, hmx⟩, he.2.2.mono ?_⟩
    · rw [Nat.zero_add]; exact he.2.1.2 i (by rw [marksR_len]; exact hi)
    · intro j hj
      subst hj
      exact ⟨hg, rfl⟩
end Go.Proofs.YtngdgogjlpjjpaeGreat

namespace Go.Proofs.YtngdgogjlpjjpaeGreat
open Go.RowKit Classical
set_option linter.unusedVariables false

set_option maxHeartbeats 1000000 in
theorem heldRegionS_any (a : Option Addr) (n cap : Nat) (k : Nat) (w : World) (h : RS w a n cap (marksR k n)) (hn : n ≤ 2097152) (hk : k ≤ 4194304) :
    Calls Tryz.prog 34 #[.slice a n cap, .int .i64 k] w fun e w' => e = .returned (.int .i64 ((k + 6 * n : Nat) : Int)) ∧ w = w' := by
  go_enter Tryz.func34, Tryz.ntmps34
  go_wp2
  go_loop [1, 5] (fun x i => ∃ m : Nat, m ≤ n ∧ i = .int .i64 m ∧ x = .int .i64 ((k + 6 * m : Nat) : Int)) (fun _ i => n - (intOf i).toNat)
  case atStart => exact ⟨0, Nat.zero_le _, rfl, rfl⟩
  case round =>
    obtain ⟨m, hm, rfl, rfl⟩ := hrel
    by_cases hlt : m < n
    · have hlt' : (m : Int) < (n : Int) := by omega
      obtain ⟨b, off, rfl⟩ := h.some (by omega)
      have hc := h.at m hlt
      rw [marksR_getD k n m hlt] at hc
      obtain ⟨K, hK⟩ : ∃ K : Int, K = ((k + 6 * m : Nat) : Int) := ⟨_, rfl⟩
      have hK0 : 0 ≤ K := by omega
      have hK1 : K ≤ 33554432 := by omega
      have HK := hide (show K + 1 + 1 + 1 + 1 + 1 + 1 = ((k + 6 * (m + 1) : Nat) : Int) by omega)
      rw [← hK] at hc ⊢
      obtain ⟨q1, q2, q3, q4, q5, q6⟩ := hc
      simp only [mk6] at q1 q2 q3 q4 q5 q6
      have e1 : (K != K) = false := by simp
      have e2 : (K + 1 != K + 1) = false := by simp
      have e3 : (K + 1 + 1 != K + 1 + 1) = false := by simp
      clear hK
      go_wp2
      go_round
      case rel => exact ⟨m + 1, by omega, by go_num, by rw [HK.out]⟩
      case measure => simp [intOf]; omega
    · have e : Hid (m = n) := by show m = n; omega
      go_wp2
      go_ret
      exact ⟨ret_int (by rw [e.out]), rfl⟩
end Go.Proofs.YtngdgogjlpjjpaeGreat

namespace Go.Proofs.YtngdgogjlpjjpaeGreat
open Go.RowKit Classical
set_option linter.unusedVariables false

set_option maxHeartbeats 1000000 in
theorem eqRegion_same (b l o : Int) (r x y : Bool) (w : World) :
    Calls Tryz.prog 103 #[.agg #[.int .i64 b, .int .i64 l, .int .i64 o, .bool r, .bool x, .bool y], .agg #[.int .i64 b, .int .i64 l, .int .i64 o, .bool r, .bool x, .bool y]] w fun e w' => e = .returned (.bool true) ∧ Below w.heap.size w w' := by
  have e1 : (b != b) = false := by simp
  have e2 : (l != l) = false := by simp
  have e3 : (o != o) = false := by simp
  have e4 : (r != r) = false := by simp
  have e5 : (x != x) = false := by simp
  have e6 : (y != y) = false := by simp
  go_enter Tryz.func103, Tryz.ntmps103
  go_wp2
  go_ret
  exact ⟨rfl, ((Below.refl _ _).alloc (Nat.le_refl _) _).alloc (by simp) _⟩

set_option maxHeartbeats 2000000 in
theorem eqRegionS_same (x x' : Option Addr) (n cap cap' : Nat) (rs : List Rg) (w : World) (h : RS w x n cap rs) (h' : RS w x' n cap' rs) :
    Calls Tryz.prog 32 #[.slice x n cap, .slice x' n cap'] w fun e w' => e = .returned (.bool true) ∧ Below w.heap.size w w' := by
  have hl := h.1
  have hmx := h.2.1
  unfold maxLen at hmx
  have hne : ((n : Int) != (n : Int)) = false := by simp
  go_enter Tryz.func32, Tryz.ntmps32
  go_wp2
  go_loopw [5] (fun i wr => ∃ k : Nat, k ≤ n ∧ i = .int .i64 k ∧ Below w.heap.size w wr) (fun i _ => n - (intOf i).toNat)
  case atStart => exact ⟨0, Nat.zero_le _, rfl, Below.refl _ _⟩
  case round =>
    obtain ⟨k, hk, rfl, hB⟩ := hrel
    by_cases hlt : k < n
    · have hlt' : (k : Int) < (n : Int) := by omega
      obtain ⟨b, off, rfl⟩ := h.some (by omega)
      obtain ⟨b', off', rfl⟩ := h'.some (by omega)
      have hat := (h.below hB).at k hlt
      have hat' := (h'.below hB).at k hlt
      generalize rs.getD k z6 = r at *
      obtain ⟨g1, g2, g3, g4, g5, g6⟩ := r
      have q1 := hat.1
      have q2 := hat.2.1
      have q3 := hat.2.2.1
      have q4 := hat.2.2.2.1
      have q5 := hat.2.2.2.2.1
      have q6 := hat.2.2.2.2.2
      have p1 := hat'.1
      have p2 := hat'.2.1
      have p3 := hat'.2.2.1
      have p4 := hat'.2.2.2.1
      have p5 := hat'.2.2.2.2.1
      have p6 := hat'.2.2.2.2.2
      simp only at q1 q2 q3 q4 q5 q6 p1 p2 p3 p4 p5 p6
      clear hat hat'
      go_wp2
      go_region_held3 (fun w' => w'.cell? ⟨b, off + k * 6, none⟩ = some (.int .i64 g1) ∧ w'.cell? ⟨b, off + k * 6 + 1, none⟩ = some (.int .i64 g2) ∧ w'.cell? ⟨b, off + k * 6 + 2, none⟩ = some (.int .i64 g3) ∧ w'.cell? ⟨b, off + k * 6 + 3, none⟩ = some (.bool g4) ∧ w'.cell? ⟨b, off + k * 6 + 4, none⟩ = some (.bool g5) ∧ w'.cell? ⟨b, off + k * 6 + 5, none⟩ = some (.bool g6) ∧
          w'.cell? ⟨b', off' + k * 6, none⟩ = some (.int .i64 g1) ∧ w'.cell? ⟨b', off' + k * 6 + 1, none⟩ = some (.int .i64 g2) ∧ w'.cell? ⟨b', off' + k * 6 + 2, none⟩ = some (.int .i64 g3) ∧ w'.cell? ⟨b', off' + k * 6 + 3, none⟩ = some (.bool g4) ∧ w'.cell? ⟨b', off' + k * 6 + 4, none⟩ = some (.bool g5) ∧ w'.cell? ⟨b', off' + k * 6 + 5, none⟩ = some (.bool g6)) (go_keep)
        (first
          | (go_at_call 103; refine (eqRegion_same g1 g2 g3 g4 g5 g6 _).mono ?_; rintro e w1 ⟨rfl, hb1⟩; replace hb1 := undrew hb1; obtain ⟨hc1, hf1⟩ := bcell hb1; have hlb := World.block_lt_of_cell? _ _ q1; have hlb' := World.block_lt_of_cell? _ _ p1))
      clear hc1 hf1 q1 q2 q3 q4 q5 q6 p1 p2 p3 p4 p5 p6
      go_wp2
      go_roundw
      case rel => exact ⟨k + 1, by omega, by go_num, hB.trans (hb1.mono hB.size)⟩
      case measure => simp [intOf]; omega
    · go_wp2
      go_ret
      exact ⟨rfl, hB⟩
end Go.Proofs.YtngdgogjlpjjpaeGreat

namespace Go.Proofs.YtngdgogjlpjjpaeGreat
open Go.RowKit Classical
set_option linter.unusedVariables false
set_option linter.unusedSimpArgs false
set_option maxRecDepth 100000

theorem ORg.bl {w w' : World} {base : Nat} {v : Value} {rs : List Rg} (h : ORg w base v rs) (hb : Below w.heap.size w w') : ORg w' base v rs := turn_or' (turn_below hb) h (fun _ _ h => h)
/-- what must stay: the arguments' boxes, the first answer -/
structure Kn (cf : Array Value) (tc : TypeId) (ct : Array Value) (tt : TypeId) (base : Nat) (R : List Rg) (w W5 : World) (p : Option Addr) (k q : Nat) (W : World) : Prop where
  be : Below w.heap.size w W
  kc : Blk W w.heap.size cf tc
  kt : Blk W (w.heap.size + 1) ct tt
  mw : ORg W base (.slice p k q) R
  m5 : ORg W5 base (.slice p k q) R
  n5 : w.heap.size + 1 < W5.heap.size
  w5 : W5.heap.size ≤ W.heap.size
section
variable {cf : Array Value} {tc : TypeId} {ct : Array Value} {tt : TypeId} {base : Nat} {R : List Rg} {w W5 W W' : World} {p : Option Addr} {k q : Nat}
theorem Kn.turn {S : Nat → Prop} (h : Kn cf tc ct tt base R w W5 p k q W) (t : Turn S W W') (hS : ∀ j, S j → W5.heap.size ≤ j) : Kn cf tc ct tt base R w W5 p k q W' :=
  ⟨below_turn h.be t (fun k s => by have := hS k s; have := h.n5; omega) h.be.size, turn_blk t h.kc (fun s => by have := hS _ s; have := h.n5; omega), turn_blk t h.kt (fun s => by have := hS _ s; have := h.n5; omega), turn_or' t h.mw (fun j hj s => by have := hS _ s; have := or_lt h.m5 j hj; omega), h.m5, h.n5, Nat.le_trans h.w5 t.size⟩
theorem Kn.below (h : Kn cf tc ct tt base R w W5 p k q W) (hb : Below W.heap.size W W') : Kn cf tc ct tt base R w W5 p k q W' := h.turn (S := fun _ => False) (turn_below hb) (fun _ s => absurd s id)
end
theorem Blk.tg3 {w : World} {b : Nat} {t : TypeId} {v0 v1 v2 : Value} (h : Blk w b #[v0, v1, v2] t) : w.cell? ⟨b, 0, none⟩ = some v0 ∧ w.cell? ⟨b, 1, none⟩ = some v1 ∧ w.cell? ⟨b, 2, none⟩ = some v2 := ⟨h.cell 0, h.cell 1, h.cell 2⟩
theorem pnV_len (ps : List PMod) (L : Lay) (m b s : Int) : (pnV ps L m b s).length ≤ 8 := by
  unfold pnV
  by_cases c : pnO ps L m b s = true
  · rw [if_pos c]
    unfold pnO at c
    simp only [Bool.and_eq_true,decide_eq_true_eq,lokB_iff] at c
    exact c.2
  · rw [if_neg c]; simp
end Go.Proofs.YtngdgogjlpjjpaeGreat
