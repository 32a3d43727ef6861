import Derived.Test.YtngdgogjlpjjpaeGreatJ48
import Derived.Test.YtngdgogjlpjjpaeGreatJ50
import Derived.Deep.RegionHeld3
import Derived.Test.YtngdgogjlpjjpaeGreatJ00
import Derived.ProofKit
import Derived.OpenShut
import Derived.ShutString
import Derived.ChangeOld
import Derived.Test.YtngdgogjlpjjpaeGreatJ14
import Derived.Deep.Slices
import Derived.Test.YtngdgogjlpjjpaeGreatJ19
import Derived.ChangeMaps5
import Derived.Test.YtngdgogjlpjjpaeGreatJ38
namespace Go.Proofs.YtngdgogjlpjjpaeGreat
open Go.RowKit
set_option linter.unusedVariables false
set_option linter.unusedSimpArgs false
set_option maxRecDepth 100000

theorem ORg.bl {w w' : World} {base : Nat} {v : Value} {rs : List Rg} (h : ORg w base v rs) (hb : Below w.heap.size w w') : ORg w' base v rs := turn_or' (turn_below hb) h (fun _ _ h => h)
/-- what must stay: the arguments' boxes, the first answer -/
structure Kn (cf : Array Value) (tc : TypeId) (ct : Array Value) (tt : TypeId) (base : Nat) (R : List Rg) (w W5 : World) (p : Option Addr) (k q : Nat) (W : World) : Prop where
  be : Below w.heap.size w W
  kc : Blk W w.heap.size cf tc
  kt : Blk W (w.heap.size + 1) ct tt
  mw : ORg W base (.slice p k q) R
  m5 : ORg W5 base (.slice p k q) R
  n5 : w.heap.size + 1 < W5.heap.size
  w5 : W5.heap.size ≤ W.heap.size
section
variable {cf : Array Value} {tc : TypeId} {ct : Array Value} {tt : TypeId} {base : Nat} {R : List Rg} {w W5 W W' : World} {p : Option Addr} {k q : Nat}
theorem Kn.turn {S : Nat → Prop} (h : Kn cf tc ct tt base R w W5 p k q W) (t : Turn S W W') (hS : ∀ j, S j → W5.heap.size ≤ j) : Kn cf tc ct tt base R w W5 p k q W' :=
  ⟨below_turn h.be t (fun k s => by have := hS k s; have := h.n5; omega) h.be.size, turn_blk t h.kc (fun s => by have := hS _ s; have := h.n5; omega), turn_blk t h.kt (fun s => by have := hS _ s; have := h.n5; omega), turn_or' t h.mw (fun j hj s => by have := hS _ s; have := or_lt h.m5 j hj; omega), h.m5, h.n5, Nat.le_trans h.w5 t.size⟩
theorem Kn.below (h : Kn cf tc ct tt base R w W5 p k q W) (hb : Below W.heap.size W W') : Kn cf tc ct tt base R w W5 p k q W' := h.turn (S := fun _ => False) (turn_below hb) (fun _ s => absurd s id)
end
theorem Blk.tg3 {w : World} {b : Nat} {t : TypeId} {v0 v1 v2 : Value} (h : Blk w b #[v0, v1, v2] t) : w.cell? ⟨b, 0, none⟩ = some v0 ∧ w.cell? ⟨b, 1, none⟩ = some v1 ∧ w.cell? ⟨b, 2, none⟩ = some v2 := ⟨h.cell 0, h.cell 1, h.cell 2⟩
theorem pnV_len (ps : List PMod) (L : Lay) (m b s : Int) : (pnV ps L m b s).length ≤ 8 := by
  unfold pnV
  by_cases c : pnO ps L m b s = true
  · rw [if_pos c]
    unfold pnO at c
    simp only [Bool.and_eq_true, decide_eq_true_eq] at c
    exact c.2
  · rw [if_neg c]; simp
end Go.Proofs.YtngdgogjlpjjpaeGreat

namespace Go.Proofs.YtngdgogjlpjjpaeGreat
open Go.RowKit
set_option linter.unusedVariables false
set_option linter.unusedSimpArgs false
set_option maxRecDepth 100000

/-- WHETHER ALL PLANS FIT -/
def FitP (ps : List PMod) (L : Lay) : Prop := Lok ps L ∧ ∀ m b s : Int, 0 ≤ pcq ps m b → sOk L b s → (plR ps L m b s).length ≤ 8
theorem pc_iff {w : World} {a : Option Addr} {n cap : Nat} {ms : List Md} (h : MSD w a n cap ms) (m b : Int) : 0 ≤ pcq (pmS ms) m b ↔ (0 ≤ m ∧ m < (n : Int)) ∧ (b = -1 ∨ (0 ≤ b ∧ b < ((ms.getD m.toNat zMd).bn : Int))) := by
  have hn := h.s.1
  rw [← pcm_pcq h]
  unfold pcm
  rw [hn]
  by_cases c : 0 ≤ m ∧ m < (n : Int)
  · rw [if_pos c]
    unfold pcn
    by_cases c1 : b = -1
    · rw [if_pos c1]; exact ⟨fun _ => ⟨c, .inl c1⟩, fun _ => by omega⟩
    · rw [if_neg c1]
      by_cases c2 : 0 ≤ b ∧ b < ((ms.getD m.toNat zMd).bn : Int)
      · rw [if_pos c2]; exact ⟨fun _ => ⟨c, .inr c2⟩, fun _ => by omega⟩
      · rw [if_neg c2]; exact ⟨fun h => absurd h (by decide), fun h => absurd h.2 (fun h => h.elim c1 c2)⟩
  · rw [if_neg c]; exact ⟨fun h => absurd h (by decide), fun h => absurd h.1 c⟩
/-- the slots of a bank -/
theorem sOk_t (L : Lay) : sOk L (-1) (-1) := by unfold sOk; rw [if_pos (.inl rfl)]
theorem sOk_ti {L : Lay} {s : Int} (h : sOk L (-1) s) : s = -1 := by unfold sOk at h; rwa [if_pos (.inl rfl)] at h
theorem sOk_e {L : Lay} (b : Int) (h : L.slots = []) : sOk L b (-1) := by unfold sOk; rw [if_pos (.inr h)]
theorem sOk_ei {L : Lay} {b s : Int} (h : L.slots = []) (hs : sOk L b s) : s = -1 := by unfold sOk at hs; rwa [if_pos (.inr h)] at hs
theorem sOk_s {L : Lay} {b s : Int} (hb : b ≠ -1) (h : ¬ L.slots = []) : sOk L b s ↔ 0 ≤ s ∧ s < (L.slots.length : Int) := by unfold sOk; rw [if_neg (fun c => c.elim hb h)]
def F2 (ps : List PMod) (L : Lay) (m b : Int) : Prop := ∀ s : Int, sOk L b s → (plR ps L m b s).length ≤ 8
theorem fit_all {w : World} {a : Option Addr} {n cap : Nat} {ms : List Md} {L : Lay} (h : MSD w a n cap ms) (hk : Lok (pmS ms) L) (hf : ∀ m : Nat, m < n → ∀ b : Int, (b = -1 ∨ (0 ≤ b ∧ b < ((ms.getD m zMd).bn : Int))) → F2 (pmS ms) L m b) : FitP (pmS ms) L := by
  refine ⟨hk, fun m b s hp hs => ?_⟩
  obtain ⟨⟨h1, h2⟩, h3⟩ := (pc_iff h m b).1 hp
  have := hf m.toNat (by omega) b h3 s hs
  rwa [Int.toNat_of_nonneg h1] at this
theorem fit_no {w : World} {a : Option Addr} {n cap : Nat} {ms : List Md} {L : Lay} (h : MSD w a n cap ms) {m b s : Int} (hm : 0 ≤ m ∧ m < (n : Int)) (hb : b = -1 ∨ (0 ≤ b ∧ b < ((ms.getD m.toNat zMd).bn : Int))) (hs : sOk L b s) (hl : ¬ (plR (pmS ms) L m b s).length ≤ 8) : ¬ FitP (pmS ms) L := fun hf => hl (hf.2 m b s ((pc_iff h m b).2 ⟨hm, hb⟩) hs)
set_option maxHeartbeats 4000000 in
theorem sFits_any (a : Option Addr) (n cap : Nat) (ms : List Md) (L : Lay) (a0 : Option Addr) (c0 : Nat) (xs : List PB) (a2 : Option Addr) (c2 : Nat) (a5 : Option Addr) (c5 : Nat) (ts : List TB) (w : World) (h : MSD w a n cap ms) (hL : LyT w L a0 c0 xs a2 c2 a5 c5 ts) :
    Calls Tryz.prog 11 #[.slice a n cap, .agg #[.slice a0 xs.length c0, .int .i64 L.stack, .slice a2 L.slots.length c2, .int .i64 L.flash, .int .i64 L.ram, .slice a5 ts.length c5]] w fun e w' => ∃ r : Bool, e = .returned (.bool r) ∧ (r = true ↔ FitP (pmS ms) L) ∧ Below w.heap.size w w' := by
  obtain ⟨V, hV⟩ : ∃ V, V = w.alloc (.cells #[.slice a0 xs.length c0, .int .i64 L.stack, .slice a2 L.slots.length c2, .int .i64 L.flash, .int .i64 L.ram, .slice a5 ts.length c5] 36) := ⟨_, rfl⟩
  have hB : Below w.heap.size w V := by rw [hV]; exact (Below.refl _ _).alloc (Nat.le_refl _) _
  have k0 : Blk V w.heap.size #[.slice a0 xs.length c0, .int .i64 L.stack, .slice a2 L.slots.length c2, .int .i64 L.flash, .int .i64 L.ram, .slice a5 ts.length c5] 36 := by rw [hV]; exact Blk.new w _ _
  have HBV := hide hB
  have HM := hide (h.below hB)
  have HL2 := hide (hL.below hB)
  have HV := hide hV
  have HK := hide k0
  have hn := h.s.1
  have hmx := h.s.2.1
  have hlx := hL.s.2.1
  unfold maxLen at hmx hlx
  have HKX := hide (show ∀ X, Below V.heap.size V X → X.cell? ⟨w.heap.size, 0, none⟩ = some (.slice a0 xs.length c0) ∧ X.cell? ⟨w.heap.size, 1, none⟩ = some (.int .i64 L.stack) ∧ X.cell? ⟨w.heap.size, 2, none⟩ = some (.slice a2 L.slots.length c2) ∧ X.cell? ⟨w.heap.size, 3, none⟩ = some (.int .i64 L.flash) ∧ X.cell? ⟨w.heap.size, 4, none⟩ = some (.int .i64 L.ram) ∧ X.cell? ⟨w.heap.size, 5, none⟩ = some (.slice a5 ts.length c5) from fun X hz => (HK.out.below hz).ly6)
  have HX := hide (show ∀ X, Below V.heap.size V X → Below w.heap.size w X from fun X hz => HBV.out.trans (hz.mono HBV.out.size))
  have HR := hide (show Calls Tryz.prog 50 #[.slice a n cap, .agg #[.slice a0 xs.length c0, .int .i64 L.stack, .slice a2 L.slots.length c2, .int .i64 L.flash, .int .i64 L.ram, .slice a5 ts.length c5]] V (fun e w' => e = .returned (.bool (decide (Lok (pmS ms) L))) ∧ Below V.heap.size V w') from l5Real_any a n cap ms L a0 c0 xs a2 c2 a5 c5 ts V HM.out HL2.out)
  clear hV k0 h hL hB
  obtain ⟨z0, z1, z2, z3, z4, z5⟩ := HKX.out _ (Below.refl _ _)
  by_cases c1 : Lok (pmS ms) L
  · rw [decide_eq_true c1] at HR
    have HC := hide c1
    have HPL := hide (show ∀ X (m b s : Int), Below V.heap.size V X → (0 ≤ m ∧ m < (n : Int)) → (b = -1 ∨ (0 ≤ b ∧ b < ((ms.getD m.toNat zMd).bn : Int))) → sOk L b s → Calls Tryz.prog 51 #[.slice a n cap, .agg #[.slice a0 xs.length c0, .int .i64 L.stack, .slice a2 L.slots.length c2, .int .i64 L.flash, .int .i64 L.ram, .slice a5 ts.length c5], .agg #[.int .i64 m, .int .i64 b, .int .i64 0], .int .i64 s] X (fun e w' => ∃ A k c, e = .returned (.slice A k c) ∧ k = (plR (pmS ms) L m b s).length ∧ Below X.heap.size X w' ∧ Below V.heap.size V w') from fun X m b s hz hm hb hs => (l6Plan_any a n cap ms L a0 c0 xs a2 c2 a5 c5 ts m b 0 s X (HM.out.below hz) (HL2.out.below hz) c1 ((pc_iff HM.out m b).2 ⟨hm, hb⟩) hs.fit).mono fun e w' ⟨A, k, c, he, ho, hbb⟩ => ⟨A, k, c, he, (or_rs ho).1.symm, hbb, hz.trans (hbb.mono hz.size)⟩)
    clear c1
    obtain ⟨l, hl⟩ : ∃ l, l = L.slots.length := ⟨_, rfl⟩
    rw [← hl] at HR HPL HKX HV z2 hlx ⊢
    have HLE := hide hl
    have HSE := hide (show L.slots = [] ↔ l = 0 by rw [hl]; exact List.length_eq_zero_iff.symm)
    clear hl
    go_enter Tryz.func11, Tryz.ntmps11
    go_wp2_with (rw [← HV.out])
    refine HR.out.mono ?_
    rintro e X1 ⟨rfl, hb1⟩
    have HB1 := hide hb1
    clear hb1 z0 z1 z2 z3 z4 z5 HR HV
    go_wp2_with fail
    go_loopw [5] (fun i wr => ∃ m : Nat, m ≤ n ∧ i = .int .i64 m ∧ (∀ m' : Nat, m' < m → ∀ b : Int, (b = -1 ∨ (0 ≤ b ∧ b < ((ms.getD m' zMd).bn : Int))) → F2 (pmS ms) L m' b) ∧ Below V.heap.size V wr) (fun i _ => n - (intOf i).toNat)
    case atStart => exact ⟨0, Nat.zero_le _, rfl, fun m' hm' => absurd hm' (Nat.not_lt_zero _), HB1.out⟩
    case round =>
      obtain ⟨m, hm, rfl, hF, hB⟩ := hrel
      have HF := hide hF
      have HB := hide hB
      clear hF hB HB1
      by_cases hlt : m < n
      · have hlt' : (m : Int) < (n : Int) := by omega
        obtain ⟨gm, om, rfl, _, _, v2, _, _, _, _, _⟩ := HM.out.s.at m hlt
        have hbx : (ms.getD m zMd).bn ≤ 9223372036854775807 := by have := (HM.out.s.2.2.2.1 m hlt).b.2.1; unfold maxLen at this; omega
        obtain ⟨bn, hbn⟩ : ∃ bn, bn = (ms.getD m zMd).bn := ⟨_, rfl⟩
        have HBN := hide hbn
        rw [← hbn] at v2 hbx
        clear hbn
        have HP1 := hide (HPL.out wr m (-1) (-1) HB.out (by omega) (.inl rfl) (sOk_t L))
        obtain ⟨z0, z1, z2, z3, z4, z5⟩ := HKX.out _ HB.out
        go_wp2_with fail
        refine HP1.out.mono ?_
        rintro e X2 ⟨A, k, c, rfl, hk, _, hb2⟩
        have HK2 := hide hk
        have HB2 := hide hb2
        clear hk hb2 HP1 z0 z1 z2 z3 z4 z5
        by_cases h8 : k ≤ 8
        · have h8' : (k : Int) ≤ 8 := by omega
          have HT := hide (show F2 (pmS ms) L m (-1) from fun s hs => by rw [sOk_ti hs, ← HK2.out]; exact h8)
          go_wp2_with fail
          generalize wr = wo at *
          go_loopw [6] (fun i wr => ∃ q : Nat, q ≤ bn ∧ i = .int .i64 q ∧ (∀ b : Int, (b = -1 ∨ (0 ≤ b ∧ b < (q : Int))) → F2 (pmS ms) L m b) ∧ Below V.heap.size V wr) (fun i _ => bn - (intOf i).toNat)
          case atStart => exact ⟨0, Nat.zero_le _, rfl, fun b hb => by rcases hb with rfl | hb; exact HT.out; omega, HB2.out⟩
          case round =>
            obtain ⟨q, hq, rfl, hF2, hB3⟩ := hrel
            have HF2 := hide hF2
            have HB3 := hide hB3
            clear hF2 hB3
            have v3 := cell_below HB3.out v2
            by_cases hq2 : q < bn
            · have hq2' : (q : Int) < (bn : Int) := by omega
              generalize wr = wp at *
              have HQ := hide (show F2 (pmS ms) L m (q : Int) → ∀ b : Int, (b = -1 ∨ (0 ≤ b ∧ b < ((q + 1 : Nat) : Int))) → F2 (pmS ms) L m b from fun h b hb => by
                by_cases e : b = (q : Int)
                · rw [e]; exact h
                · exact HF2.out b (by omega))
              obtain ⟨V3, hV3⟩ : ∃ V3, V3 = wp.alloc (.cells #[.int .i64 m, .int .i64 q, .int .i64 0] 71) := ⟨_, rfl⟩
              have bV3 : Below V.heap.size V V3 := by rw [hV3]; exact HB3.out.alloc HB3.out.size _
              have kT : Blk V3 wp.heap.size #[.int .i64 m, .int .i64 q, .int .i64 0] 71 := by rw [hV3]; exact Blk.new _ _ _
              have HV3 := hide hV3
              have HBV3 := hide bV3
              have HKT := hide kT
              have v4 := cell_below HBV3.out v2
              clear hV3 bV3 kT
              obtain ⟨z0, z1, z2, z3, z4, z5⟩ := HKX.out _ HBV3.out
              obtain ⟨y0, y1, y2⟩ := HKT.out.tg3
              have HBQ := hide (show (q : Int) = -1 ∨ (0 ≤ (q : Int) ∧ (q : Int) < ((ms.getD ((m : Int)).toNat zMd).bn : Int)) from .inr ⟨by omega, by rw [Int.toNat_natCast, ← HBN.out]; exact hq2'⟩)
              by_cases hl0 : l = 0
              · have HSL := hide (HSE.out.2 hl0)
                have HP2 := hide (HPL.out V3 m q (-1) HBV3.out (by omega) HBQ.out (sOk_e _ HSL.out))
                subst hl0
                go_wp2_with (rw [← HV3.out])
                refine HP2.out.mono ?_
                rintro e X4 ⟨A2, k2, c2', rfl, hk2, _, hb4⟩
                have HK4 := hide hk2
                have HB4 := hide hb4
                clear hk2 hb4 HP2 z0 z1 z2 z3 z4 z5 y0 y1 y2
                by_cases h82 : k2 ≤ 8
                · have h82' : (k2 : Int) ≤ 8 := by omega
                  have HN := hide (HQ.out (fun s hs => by rw [sOk_ei HSL.out hs, ← HK4.out]; exact h82))
                  go_wp2_with fail
                  go_loopw [8] (fun i wr => i = .int .i64 0 ∧ Below V.heap.size V wr) (fun _ _ => 0)
                  case atStart => exact ⟨rfl, HB4.out⟩
                  case round =>
                    obtain ⟨rfl, hB5⟩ := hrel
                    have HB5 := hide hB5
                    obtain ⟨z0, z1, z2, z3, z4, z5⟩ := HKX.out _ HB5.out
                    clear hB5
                    go_wp2
                    go_roundw
                    case rel => exact ⟨q + 1, by omega, by go_num, HN.out, HB5.out⟩
                    case measure => simp [intOf]; omega
                · have h82' : (8 : Int) < (k2 : Int) := by omega
                  have HNO := hide (fit_no HM.out (m := (m : Int)) (b := (q : Int)) (s := -1) (by omega) HBQ.out (sOk_e _ HSL.out) (by rw [← HK4.out]; exact h82))
                  go_wp2
                  go_ret
                  exact ⟨false, rfl, by simp [HNO.out], HX.out _ HB4.out⟩
              · have hl0' : ((l : Int) == 0) = false := by simpa using hl0
                have HSK := hide (show ∀ s : Int, sOk L (q : Int) s ↔ 0 ≤ s ∧ s < (l : Int) from fun s => by rw [HLE.out]; exact sOk_s (by omega) (fun e => hl0 (HSE.out.1 e)))
                go_wp2_with (rw [← HV3.out])
                clear z0 z1 z2 z3 z4 z5 y0 y1 y2
                go_loopw [8] (fun i wr => ∃ t : Nat, t ≤ l ∧ i = .int .i64 t ∧ (∀ s' : Nat, s' < t → (plR (pmS ms) L m q s').length ≤ 8) ∧ Blk wr wp.heap.size #[.int .i64 m, .int .i64 q, .int .i64 0] 71 ∧ Below V.heap.size V wr) (fun i _ => l - (intOf i).toNat)
                case atStart => exact ⟨0, Nat.zero_le _, rfl, fun s' hs' => absurd hs' (Nat.not_lt_zero _), HKT.out, HBV3.out⟩
                case round =>
                  obtain ⟨t, ht, rfl, hG, kt5, hB5⟩ := hrel
                  have HG := hide hG
                  have HK5 := hide kt5
                  have HB5 := hide hB5
                  clear hG kt5 hB5
                  obtain ⟨z0, z1, z2, z3, z4, z5⟩ := HKX.out _ HB5.out
                  obtain ⟨y0, y1, y2⟩ := HK5.out.tg3
                  by_cases ht2 : t < l
                  · have ht2' : (t : Int) < (l : Int) := by omega
                    have HP3 := hide (HPL.out wr m q t HB5.out (by omega) HBQ.out ((HSK.out _).2 ⟨by omega, ht2'⟩))
                    go_wp2_with fail
                    refine HP3.out.mono ?_
                    rintro e X6 ⟨A3, k3, c3', rfl, hk3, hbx6, hb6⟩
                    have HK6 := hide hk3
                    have HB6 := hide (And.intro hbx6 hb6)
                    clear hk3 hbx6 hb6 HP3 z0 z1 z2 z3 z4 z5 y0 y1 y2
                    by_cases h83 : k3 ≤ 8
                    · have h83' : (k3 : Int) ≤ 8 := by omega
                      have HN := hide (show ∀ s' : Nat, s' < t + 1 → (plR (pmS ms) L m q s').length ≤ 8 from fun s' hs' => by
                        by_cases e : s' = t
                        · rw [e, ← HK6.out]; exact h83
                        · exact HG.out s' (by omega))
                      go_wp2
                      go_roundw
                      case rel => exact ⟨t + 1, by omega, by go_num, HN.out, HK5.out.below HB6.out.1, HB6.out.2⟩
                      case measure => simp [intOf]; omega
                    · have h83' : (8 : Int) < (k3 : Int) := by omega
                      have HNO := hide (fit_no HM.out (m := (m : Int)) (b := (q : Int)) (s := (t : Int)) (by omega) HBQ.out ((HSK.out _).2 ⟨by omega, ht2'⟩) (by rw [← HK6.out]; exact h83))
                      go_wp2
                      go_ret
                      exact ⟨false, rfl, by simp [HNO.out], HX.out _ HB6.out.2⟩
                  · have HN := hide (HQ.out (fun s hs => by
                      have h1 := (HSK.out s).1 hs
                      have h2 := HG.out s.toNat (by omega)
                      rwa [Int.toNat_of_nonneg h1.1] at h2))
                    go_wp2
                    go_roundw
                    case rel => exact ⟨q + 1, by omega, by go_num, HN.out, HB5.out⟩
                    case measure => simp [intOf]; omega
            · have HN := hide (show ∀ m' : Nat, m' < m + 1 → ∀ b : Int, (b = -1 ∨ (0 ≤ b ∧ b < ((ms.getD m' zMd).bn : Int))) → F2 (pmS ms) L m' b from fun m' hm' b hb => by
                by_cases e : m' = m
                · subst e
                  rw [← HBN.out] at hb
                  exact HF2.out b (by omega)
                · exact HF.out m' (by omega) b hb)
              go_wp2
              go_roundw
              case rel => exact ⟨m + 1, by omega, by go_num, HN.out, HB3.out⟩
              case measure => simp [intOf]; omega
        · have h8' : (8 : Int) < (k : Int) := by omega
          have HNO := hide (fit_no HM.out (m := (m : Int)) (b := -1) (s := -1) (by omega) (.inl rfl) (sOk_t L) (by rw [← HK2.out]; exact h8))
          go_wp2
          go_ret
          exact ⟨false, rfl, by simp [HNO.out], HX.out _ HB2.out⟩
      · have HN := hide (fit_all HM.out HC.out (fun m' hm' => HF.out m' (by omega)))
        go_wp2
        go_ret
        exact ⟨true, rfl, by simp [HN.out], HX.out _ HB.out⟩
  · rw [decide_eq_false c1] at HR
    have HC := hide c1
    clear c1
    go_enter Tryz.func11, Tryz.ntmps11
    go_wp2_with (rw [← HV.out])
    refine HR.out.mono ?_
    rintro e X1 ⟨rfl, hb1⟩
    have HB1 := hide hb1
    clear hb1
    go_wp2
    go_ret
    exact ⟨false, rfl, by simp [FitP, HC.out], HX.out _ HB1.out⟩
end Go.Proofs.YtngdgogjlpjjpaeGreat

namespace Go.Proofs.YtngdgogjlpjjpaeGreat
open Go.RowKit
set_option linter.unusedVariables false
set_option linter.unusedSimpArgs false
set_option maxRecDepth 100000

theorem Blk.c2 {w : World} {b : Nat} {t : TypeId} {v0 v1 v2 v3 v4 v5 v6 v7 : Value} (h : Blk w b #[v0, v1, v2, v3, v4, v5, v6, v7] t) : w.cell? ⟨b, 2, none⟩ = some v2 := h.cell 2
theorem slF_all {ps : List PMod} {L : Lay} {m b : Int} (h : ∀ t : Nat, t < (slF L b).length → (plR ps L m b ((slF L b).getD t 0)).length ≤ 8) : F2 ps L m b := fun s hs => by
  obtain ⟨k, hk, e⟩ := mem_getD ((slF_mem L b s).2 hs)
  rw [← e]
  exact h k hk
theorem slF_ok {L : Lay} {b : Int} {t : Nat} (h : t < (slF L b).length) : sOk L b ((slF L b).getD t 0) := (slF_mem L b _).1 (getD_mem' h)
set_option maxHeartbeats 4000000 in
theorem plansFit_any (a : Option Addr) (n cap : Nat) (ms : List Md) (L : Lay) (a0 : Option Addr) (c0 : Nat) (xs : List PB) (a2 : Option Addr) (c2 : Nat) (a5 : Option Addr) (c5 : Nat) (ts : List TB) (w : World) (h : MSD w a n cap ms) (hL : LyT w L a0 c0 xs a2 c2 a5 c5 ts) (hk : Lok (pmS ms) L) :
    Calls Tryz.prog 57 #[.slice a n cap, .agg #[.slice a0 xs.length c0, .int .i64 L.stack, .slice a2 L.slots.length c2, .int .i64 L.flash, .int .i64 L.ram, .slice a5 ts.length c5]] w fun e w' => ∃ r : Bool, e = .returned (.bool r) ∧ (r = true ↔ FitP (pmS ms) L) ∧ Below w.heap.size w w' := by
  obtain ⟨V, hV⟩ : ∃ V, V = w.alloc (.cells #[.slice a0 xs.length c0, .int .i64 L.stack, .slice a2 L.slots.length c2, .int .i64 L.flash, .int .i64 L.ram, .slice a5 ts.length c5] 36) := ⟨_, rfl⟩
  have hB : Below w.heap.size w V := by rw [hV]; exact (Below.refl _ _).alloc (Nat.le_refl _) _
  have k0 : Blk V w.heap.size #[.slice a0 xs.length c0, .int .i64 L.stack, .slice a2 L.slots.length c2, .int .i64 L.flash, .int .i64 L.ram, .slice a5 ts.length c5] 36 := by rw [hV]; exact Blk.new w _ _
  have HBV := hide hB
  have HM := hide (h.below hB)
  have HL2 := hide (hL.below hB)
  have HV := hide hV
  have HK := hide k0
  have hn := h.s.1
  have hmx := h.s.2.1
  have hlx := hL.s.2.1
  unfold maxLen at hmx hlx
  have HKX := hide (show ∀ X, Below V.heap.size V X → X.cell? ⟨w.heap.size, 0, none⟩ = some (.slice a0 xs.length c0) ∧ X.cell? ⟨w.heap.size, 1, none⟩ = some (.int .i64 L.stack) ∧ X.cell? ⟨w.heap.size, 2, none⟩ = some (.slice a2 L.slots.length c2) ∧ X.cell? ⟨w.heap.size, 3, none⟩ = some (.int .i64 L.flash) ∧ X.cell? ⟨w.heap.size, 4, none⟩ = some (.int .i64 L.ram) ∧ X.cell? ⟨w.heap.size, 5, none⟩ = some (.slice a5 ts.length c5) from fun X hz => (HK.out.below hz).ly6)
  have HX := hide (show ∀ X, Below V.heap.size V X → Below w.heap.size w X from fun X hz => HBV.out.trans (hz.mono HBV.out.size))
  have HC := hide hk
  have HPO := hide (show ∀ X (m b s : Int), Below V.heap.size V X → (0 ≤ m ∧ m < (n : Int)) → (b = -1 ∨ (0 ≤ b ∧ b < ((ms.getD m.toNat zMd).bn : Int))) → sOk L b s → Calls Tryz.prog 102 #[.slice a n cap, .agg #[.slice a0 xs.length c0, .int .i64 L.stack, .slice a2 L.slots.length c2, .int .i64 L.flash, .int .i64 L.ram, .slice a5 ts.length c5], .agg #[.int .i64 m, .int .i64 b, .int .i64 0], .int .i64 s] X (fun e w' => ∃ A k c, e = .returned (.tuple #[.slice A k c, .bool (decide ((plR (pmS ms) L m b s).length ≤ 8))]) ∧ Below X.heap.size X w' ∧ Below V.heap.size V w') from fun X m b s hz hm hb hs => (planOf_any a n cap ms L a0 c0 xs a2 c2 a5 c5 ts m b 0 s X (HM.out.below hz) (HL2.out.below hz) hk ((pc_iff HM.out m b).2 ⟨hm, hb⟩) hs.fit).mono fun e w' ⟨A, k, c, he, _, hbb⟩ => ⟨A, k, c, he, hbb, hz.trans (hbb.mono hz.size)⟩)
  have HSF := hide (show ∀ X (b : Int), Below V.heap.size V X → Calls Tryz.prog 101 #[.agg #[.slice a0 xs.length c0, .int .i64 L.stack, .slice a2 L.slots.length c2, .int .i64 L.flash, .int .i64 L.ram, .slice a5 ts.length c5], .int .i64 b] X (fun e w' => ∃ ra rn rc, e = .returned (.slice ra rn rc) ∧ IS w' ra rn rc (slF L b) ∧ Below X.heap.size X w' ∧ Below V.heap.size V w') from fun X b hz => (slotsFor_any L a0 c0 xs a2 c2 a5 c5 ts b X (HL2.out.below hz) (lok_slots hk)).mono fun e w' ⟨ra, rn, rc, he, hi, hbb⟩ => ⟨ra, rn, rc, he, hi, hbb, hz.trans (hbb.mono hz.size)⟩)
  clear hV k0 h hL hB hk
  go_enter Tryz.func57, Tryz.ntmps57
  go_wp2_with (rw [← HV.out])
  clear HV
  go_loopw [14] (fun i wr => ∃ m : Nat, m ≤ n ∧ i = .int .i64 m ∧ (∀ m' : Nat, m' < m → ∀ b : Int, (b = -1 ∨ (0 ≤ b ∧ b < ((ms.getD m' zMd).bn : Int))) → F2 (pmS ms) L m' b) ∧ Below V.heap.size V wr) (fun i _ => n - (intOf i).toNat)
  case atStart => exact ⟨0, Nat.zero_le _, rfl, fun m' hm' => absurd hm' (Nat.not_lt_zero _), Below.refl _ _⟩
  case round =>
    obtain ⟨m, hm, rfl, hF, hB⟩ := hrel
    have HF := hide hF
    have HB := hide hB
    clear hF hB
    by_cases hlt : m < n
    · have hlt' : (m : Int) < (n : Int) := by omega
      obtain ⟨gm, om, rfl, v0, v1, v2, v3, v4, v5, v6, v7⟩ := HM.out.s.at m hlt
      have hbx : (ms.getD m zMd).bn ≤ 9223372036854775806 := by
        have h1 := (lok_kn HC.out).v m (by rw [pmS_len, hn]; exact hlt)
        rw [pmS_at (by rw [hn]; exact hlt)] at h1
        have h2 := (vld_en h1).2.2.2.1
        have h3 := (HM.out.d m hlt).b.1
        simp only [Md.pm, List.length_map] at h2
        omega
      obtain ⟨M, hM⟩ : ∃ M, M = ms.getD m zMd := ⟨_, rfl⟩
      have HME := hide hM
      rw [← hM] at v0 v1 v2 v3 v4 v5 v6 v7 hbx
      clear hM
      obtain ⟨bn, hbn⟩ : ∃ bn, bn = M.bn := ⟨_, rfl⟩
      have HBN := hide (show bn = (ms.getD m zMd).bn by rw [hbn, HME.out])
      rw [← hbn] at v2 hbx
      clear hbn
      have u0 := cell_below HB.out v0
      have u1 := cell_below HB.out v1
      have u2 := cell_below HB.out v2
      have u3 := cell_below HB.out v3
      have u4 := cell_below HB.out v4
      have u5 := cell_below HB.out v5
      have u6 := cell_below HB.out v6
      have u7 := cell_below HB.out v7
      clear v0 v1 v2 v3 v4 v5 v6 v7
      generalize wr = wo at *
      obtain ⟨V2, hV2⟩ : ∃ V2, V2 = wo.alloc (.cells #[.string M.nm, .slice M.ta M.tn M.tc, .slice M.ba bn M.bc, .slice M.da M.dn M.dc, .int .i64 M.bss, .slice M.ra M.rn M.rc, .slice M.ia M.im M.ic, .slice M.ea M.en M.ec] 104) := ⟨_, rfl⟩
      have HBV2 := hide (show Below V.heap.size V V2 by rw [hV2]; exact HB.out.alloc HB.out.size _)
      have HKM := hide (show Blk V2 wo.heap.size #[.string M.nm, .slice M.ta M.tn M.tc, .slice M.ba bn M.bc, .slice M.da M.dn M.dc, .int .i64 M.bss, .slice M.ra M.rn M.rc, .slice M.ia M.im M.ic, .slice M.ea M.en M.ec] 104 by rw [hV2]; exact Blk.new _ _ _)
      have HV2 := hide hV2
      clear hV2
      go_wp2_with (rw [← HV2.out])
      clear u0 u1 u2 u3 u4 u5 u6 u7
      go_loopw [7] (fun i wr => ∃ q : Nat, q ≤ bn + 1 ∧ i = .int .i64 ((q : Int) - 1) ∧ (∀ b : Int, -1 ≤ b → b < (q : Int) - 1 → F2 (pmS ms) L m b) ∧ Blk wr wo.heap.size #[.string M.nm, .slice M.ta M.tn M.tc, .slice M.ba bn M.bc, .slice M.da M.dn M.dc, .int .i64 M.bss, .slice M.ra M.rn M.rc, .slice M.ia M.im M.ic, .slice M.ea M.en M.ec] 104 ∧ Below V.heap.size V wr) (fun i _ => bn + 1 - (intOf i + 1).toNat)
      case atStart => exact ⟨0, Nat.zero_le _, rfl, fun b h1 h2 => by omega, HKM.out, HBV2.out⟩
      case round =>
        obtain ⟨q, hq, rfl, hF2, hkm, hB3⟩ := hrel
        have HF2 := hide hF2
        have HK3 := hide hkm
        have HB3 := hide hB3
        have y2 := hkm.c2
        clear hF2 hB3 hkm
        by_cases hq2 : q < bn + 1
        · have hq2' : (q : Int) - 1 < (bn : Int) := by omega
          obtain ⟨b, hb⟩ : ∃ b : Int, b = (q : Int) - 1 := ⟨_, rfl⟩
          rw [← hb] at hq2' ⊢
          have hb0 : -1 ≤ b := by omega
          have HBB := hide hb
          have HBQ := hide (show b = -1 ∨ (0 ≤ b ∧ b < ((ms.getD ((m : Int)).toNat zMd).bn : Int)) from by
            rw [Int.toNat_natCast, ← HBN.out]
            omega)
          clear hb
          generalize wr = wp at *
          have HS1 := hide (HSF.out wp b HB3.out)
          obtain ⟨z0, z1, z2, z3, z4, z5⟩ := HKX.out _ HB3.out
          go_wp2_with fail
          refine HS1.out.mono ?_
          rintro e X4 ⟨ra, rn, rc, rfl, hI, hbx4, hb4⟩
          have HI4 := hide hI
          have HK4 := hide (HK3.out.below hbx4)
          have HB4 := hide hb4
          have hrx := hI.2.1
          unfold maxLen at hrx
          clear hI hbx4 hb4 HS1 z0 z1 z2 z3 z4 z5 y2
          go_wp2_with fail
          go_loopw [30] (fun i wr => ∃ t : Nat, t ≤ rn ∧ i = .int .i64 t ∧ (∀ s' : Nat, s' < t → (plR (pmS ms) L m b ((slF L b).getD s' 0)).length ≤ 8) ∧ IS wr ra rn rc (slF L b) ∧ Blk wr wo.heap.size #[.string M.nm, .slice M.ta M.tn M.tc, .slice M.ba bn M.bc, .slice M.da M.dn M.dc, .int .i64 M.bss, .slice M.ra M.rn M.rc, .slice M.ia M.im M.ic, .slice M.ea M.en M.ec] 104 ∧ Below V.heap.size V wr) (fun i _ => rn - (intOf i).toNat)
          case atStart => exact ⟨0, Nat.zero_le _, rfl, fun s' hs' => absurd hs' (Nat.not_lt_zero _), HI4.out, HK4.out, HB4.out⟩
          case round =>
            obtain ⟨t, ht, rfl, hG, hI5, hk5, hB5⟩ := hrel
            have HG := hide hG
            have HI5 := hide hI5
            have HK5 := hide hk5
            have HB5 := hide hB5
            clear hG hk5 hB5
            by_cases ht2 : t < rn
            · have ht2' : (t : Int) < (rn : Int) := by omega
              obtain ⟨rb, ro, rfl, hcc⟩ := hI5.2.2.2.1 (by omega)
              have r0 := hcc t ht2
              have HSO := hide (slF_ok (L := L) (b := b) (t := t) (by rw [hI5.1]; exact ht2))
              have HP3 := hide (HPO.out wr m b ((slF L b).getD t 0) HB5.out (by omega) HBQ.out HSO.out)
              obtain ⟨z0, z1, z2, z3, z4, z5⟩ := HKX.out _ HB5.out
              obtain ⟨sv, hsv⟩ : ∃ sv, sv = (slF L b).getD t 0 := ⟨_, rfl⟩
              rw [← hsv] at r0 HP3 HSO
              have HSV := hide hsv
              clear hcc hI5 hsv
              go_wp2_with fail
              refine HP3.out.mono ?_
              rintro e X6 ⟨A3, k3, c3', rfl, hbx6, hb6⟩
              have HB6 := hide (And.intro hbx6 hb6)
              clear hbx6 hb6 HP3 z0 z1 z2 z3 z4 z5 r0
              by_cases h83 : (plR (pmS ms) L m b sv).length ≤ 8
              · rw [decide_eq_true h83]
                have HN := hide (show ∀ s' : Nat, s' < t + 1 → (plR (pmS ms) L m b ((slF L b).getD s' 0)).length ≤ 8 from fun s' hs' => by
                  by_cases e : s' = t
                  · rw [e, ← HSV.out]; exact h83
                  · exact HG.out s' (by omega))
                clear h83
                go_wp2
                go_roundw
                case rel => exact ⟨t + 1, by omega, by go_num, HN.out, HI5.out.below HB6.out.1, HK5.out.below HB6.out.1, HB6.out.2⟩
                case measure => simp [intOf]; omega
              · rw [decide_eq_false h83]
                have HNO := hide (fit_no HM.out (m := (m : Int)) (b := b) (s := sv) (by omega) HBQ.out HSO.out h83)
                clear h83
                go_wp2
                go_ret
                exact ⟨false, rfl, by simp [HNO.out], HX.out _ HB6.out.2⟩
            · have HN := hide (show ∀ b' : Int, -1 ≤ b' → b' < ((q + 1 : Nat) : Int) - 1 → F2 (pmS ms) L m b' from fun b' h1 h2 => by
                by_cases e : b' = b
                · rw [e]
                  exact slF_all (fun t' ht' => HG.out t' (by rw [HI5.out.1] at ht'; omega))
                · exact HF2.out b' h1 (by have := HBB.out; omega))
              have HBE := hide (show b + 1 = ((q + 1 : Nat) : Int) - 1 by have := HBB.out; omega)
              clear hI5
              go_wp2
              go_roundw
              case rel => exact ⟨q + 1, by omega, by rw [HBE.out], HN.out, HK5.out, HB5.out⟩
              case measure => have := HBB.out; simp [intOf]; omega
        · have HN := hide (show ∀ m' : Nat, m' < m + 1 → ∀ b : Int, (b = -1 ∨ (0 ≤ b ∧ b < ((ms.getD m' zMd).bn : Int))) → F2 (pmS ms) L m' b from fun m' hm' b hb => by
            by_cases e : m' = m
            · subst e
              rw [← HBN.out] at hb
              exact HF2.out b (by omega) (by omega)
            · exact HF.out m' (by omega) b hb)
          have hq3 : (q : Int) - 1 = (bn : Int) := by omega
          rw [hq3]
          go_wp2
          go_roundw
          case rel => exact ⟨m + 1, by omega, by go_num, HN.out, HB3.out⟩
          case measure => simp [intOf]; omega
    · have HN := hide (fit_all HM.out HC.out (fun m' hm' => HF.out m' (by omega)))
      go_wp2
      go_ret
      exact ⟨true, rfl, by simp [HN.out], HX.out _ HB.out⟩
end Go.Proofs.YtngdgogjlpjjpaeGreat

namespace Go.Proofs.YtngdgogjlpjjpaeGreat
open Go.RowKit
set_option linter.unusedVariables false
set_option linter.unusedSimpArgs false
set_option maxRecDepth 100000

set_option maxHeartbeats 4000000 in
theorem iFits_any (a : Option Addr) (n cap : Nat) (ms : List Md) (L : Lay) (a0 : Option Addr) (c0 : Nat) (xs : List PB) (a2 : Option Addr) (c2 : Nat) (a5 : Option Addr) (c5 : Nat) (ts : List TB) (w : World) (h : MSD w a n cap ms) (hL : LyT w L a0 c0 xs a2 c2 a5 c5 ts) :
    Calls Tryz.prog 14 #[.slice a n cap, .agg #[.slice a0 xs.length c0, .int .i64 L.stack, .slice a2 L.slots.length c2, .int .i64 L.flash, .int .i64 L.ram, .slice a5 ts.length c5]] w fun e w' => ∃ r : Bool, e = .returned (.bool r) ∧ (r = true ↔ FitP (pmS ms) L) ∧ Below w.heap.size w w' := by
  obtain ⟨V, hV⟩ : ∃ V, V = w.alloc (.cells #[.slice a0 xs.length c0, .int .i64 L.stack, .slice a2 L.slots.length c2, .int .i64 L.flash, .int .i64 L.ram, .slice a5 ts.length c5] 36) := ⟨_, rfl⟩
  have hB : Below w.heap.size w V := by rw [hV]; exact (Below.refl _ _).alloc (Nat.le_refl _) _
  have k0 : Blk V w.heap.size #[.slice a0 xs.length c0, .int .i64 L.stack, .slice a2 L.slots.length c2, .int .i64 L.flash, .int .i64 L.ram, .slice a5 ts.length c5] 36 := by rw [hV]; exact Blk.new w _ _
  have HBV := hide hB
  have HM := hide (h.below hB)
  have HL2 := hide (hL.below hB)
  have HV := hide hV
  have HK := hide k0
  have hn := h.s.1
  have hmx := h.s.2.1
  have hlx := hL.s.2.1
  unfold maxLen at hmx hlx
  have HKX := hide (show ∀ X, Below V.heap.size V X → X.cell? ⟨w.heap.size, 0, none⟩ = some (.slice a0 xs.length c0) ∧ X.cell? ⟨w.heap.size, 1, none⟩ = some (.int .i64 L.stack) ∧ X.cell? ⟨w.heap.size, 2, none⟩ = some (.slice a2 L.slots.length c2) ∧ X.cell? ⟨w.heap.size, 3, none⟩ = some (.int .i64 L.flash) ∧ X.cell? ⟨w.heap.size, 4, none⟩ = some (.int .i64 L.ram) ∧ X.cell? ⟨w.heap.size, 5, none⟩ = some (.slice a5 ts.length c5) from fun X hz => (HK.out.below hz).ly6)
  have HX := hide (show ∀ X, Below V.heap.size V X → Below w.heap.size w X from fun X hz => HBV.out.trans (hz.mono HBV.out.size))
  have HR := hide (show Calls Tryz.prog 56 #[.slice a n cap, .agg #[.slice a0 xs.length c0, .int .i64 L.stack, .slice a2 L.slots.length c2, .int .i64 L.flash, .int .i64 L.ram, .slice a5 ts.length c5]] V (fun e w' => e = .returned (.bool (decide (Lok (pmS ms) L))) ∧ Below V.heap.size V w') from layoutOk_any a n cap ms L a0 c0 xs a2 c2 a5 c5 ts V HM.out HL2.out)
  clear hV k0 h hL hB
  obtain ⟨z0, z1, z2, z3, z4, z5⟩ := HKX.out _ (Below.refl _ _)
  by_cases c1 : Lok (pmS ms) L
  · rw [decide_eq_true c1] at HR
    have HPF := hide (fun (X : World) (hz : Below V.heap.size V X) => plansFit_any a n cap ms L a0 c0 xs a2 c2 a5 c5 ts X (HM.out.below hz) (HL2.out.below hz) c1)
    clear c1
    go_enter Tryz.func14, Tryz.ntmps14
    go_wp2_with (rw [← HV.out])
    refine HR.out.mono ?_
    rintro e X1 ⟨rfl, hb1⟩
    have HB1 := hide hb1
    clear hb1 z0 z1 z2 z3 z4 z5
    obtain ⟨z0, z1, z2, z3, z4, z5⟩ := HKX.out _ HB1.out
    go_wp2_with fail
    refine (HPF.out _ HB1.out).mono ?_
    rintro e X2 ⟨r, rfl, hr, hb2⟩
    have HB2 := hide (And.intro hr (HB1.out.trans (hb2.mono HB1.out.size)))
    clear hr hb2
    go_wp2
    go_ret
    exact ⟨r, rfl, HB2.out.1, HX.out _ HB2.out.2⟩
  · rw [decide_eq_false c1] at HR
    have HC := hide c1
    clear c1
    go_enter Tryz.func14, Tryz.ntmps14
    go_wp2_with (rw [← HV.out])
    refine HR.out.mono ?_
    rintro e X1 ⟨rfl, hb1⟩
    have HB1 := hide hb1
    clear hb1
    go_wp2
    go_ret
    exact ⟨false, rfl, by simp [FitP, HC.out], HX.out _ HB1.out⟩
end Go.Proofs.YtngdgogjlpjjpaeGreat

namespace Go.Proofs.YtngdgogjlpjjpaeGreat
open Go.RowKit
set_option linter.unusedVariables false
set_option linter.unusedSimpArgs false
set_option maxRecDepth 100000

set_option maxHeartbeats 16000000 in
theorem exactFits_walk (a : Option Addr) (n cap : Nat) (ms : List Md) (L : Lay) (a0 : Option Addr) (c0 : Nat) (xs : List PB) (a2 : Option Addr) (c2 : Nat) (a5 : Option Addr) (c5 : Nat) (ts : List TB) (w : World) (h : MS w a n cap ms) (hL : LyT w L a0 c0 xs a2 c2 a5 c5 ts) :
    Calls Tryz.prog 3 #[.slice a n cap, .agg #[.slice a0 xs.length c0, .int .i64 L.stack, .slice a2 L.slots.length c2, .int .i64 L.flash, .int .i64 L.ram, .slice a5 ts.length c5]] w fun e w' => e = .returned (.bool true) ∧ Below w.heap.size w w' := by
  have HS := hide (fun w h => szModuleS_any a n cap ms 1048576 w h (by omega) (by omega))
  obtain ⟨U, hU⟩ : ∃ U, U = w.alloc (.cells #[.slice a0 xs.length c0, .int .i64 L.stack, .slice a2 L.slots.length c2, .int .i64 L.flash, .int .i64 L.ram, .slice a5 ts.length c5] 27) := ⟨_, rfl⟩
  have HB0 : Below w.heap.size w U := by rw [hU]; exact (Below.refl _ _).alloc (Nat.le_refl _) _
  have k0 : Blk U w.heap.size #[.slice a0 xs.length c0, .int .i64 L.stack, .slice a2 L.slots.length c2, .int .i64 L.flash, .int .i64 L.ram, .slice a5 ts.length c5] 27 := by rw [hU]; exact Blk.new w _ _
  have HU := hide hU
  clear hU
  obtain ⟨Q1, hQ1⟩ : ∃ Q1, Q1 = n + upS (fun j => (ms.getD j zMd).size) n := ⟨_, rfl⟩
  rw [← hQ1] at HS
  have HQ1 := hide hQ1
  clear hQ1
  by_cases hz : 1048576 < Q1
  · rw [show szR 1048576 Q1 = -1 by unfold szR; rw [if_pos (by omega)]] at HS
    go_enter Tryz.func3, Tryz.ntmps3
    go_wp2_with (rw [← HU.out])
    refine (HS.out _ (h.below HB0)).mono ?_
    rintro e w1 ⟨rfl, hb1⟩
    go_wp2
    go_ret
    exact ⟨rfl, HB0.trans (hb1.mono HB0.size)⟩
  obtain ⟨Z, hZ⟩ : ∃ Z : Int, Z = 1048576 - (Q1 : Int) := ⟨_, rfl⟩
  rw [show szR 1048576 Q1 = Z by unfold szR; rw [if_neg (by omega)]; omega] at HS
  have hZ0 : ¬ Z < 0 := by omega
  have hZ1 : Z ≤ 1048576 := by omega
  have HZE := hide hZ
  clear hZ
  have HSL := hide (fun (W : World) (hb : Below w.heap.size w W) => szLayout_any L a0 c0 xs a2 c2 a5 c5 ts Z W (hL.below hb) (by omega) (by omega))
  by_cases hy : Z < (lySz L xs ts : Int)
  · rw [show szR Z (lySz L xs ts) = -1 by unfold szR; rw [if_pos hy]] at HSL
    go_enter Tryz.func3, Tryz.ntmps3
    go_wp2_with (rw [← HU.out])
    refine (HS.out _ (h.below HB0)).mono ?_
    rintro e w1 ⟨rfl, hb1⟩
    have B1 := HB0.trans (hb1.mono HB0.size)
    have k1 := k0.below hb1
    obtain ⟨x0, x1, x2, x3, x4, x5⟩ := k1.ly6
    go_wp2_with fail
    refine (HSL.out _ B1).mono ?_
    rintro e w2 ⟨rfl, hb2⟩
    go_wp2
    go_ret
    exact ⟨rfl, B1.trans (hb2.mono B1.size)⟩
  obtain ⟨Z2', hZ2⟩ : ∃ Z2' : Int, Z2' = szR Z (lySz L xs ts) := ⟨_, rfl⟩
  rw [← hZ2] at HSL
  have hZ20 : ¬ Z2' < 0 := by rw [hZ2]; unfold szR; rw [if_neg hy]; omega
  clear hZ2
  have HQS := hide (show Q1 + lySz L xs ts ≤ 1048576 by have := HZE.out; omega)
  have HZ := hide (show ∀ i, i < n → (ms.getD i zMd).size ≤ 1048576 from fun i hi => by have := upS_le (fun j => (ms.getD j zMd).size) n i hi; have := HQ1.out; omega)
  have hn : n ≤ 1048576 := by have := HQ1.out; omega
  have HLS := hide (show lySz L xs ts ≤ 1048576 by have := HQS.out; omega)
  have HR := hide (hL.lr HLS.out)
  have HV := hide hL.v
  clear hz hy
  have HT := hide (fun (W : World) (hb : Below w.heap.size w W) => toModuleS_any a n cap ms W (h.below hb) hn HZ.out)
  have HTL := hide (fun (W : World) (hb : Below w.heap.size w W) => show Calls Tryz.prog 13 #[.agg #[.slice a0 xs.length c0, .int .i64 L.stack, .slice a2 L.slots.length c2, .int .i64 L.flash, .int .i64 L.ram, .slice a5 ts.length c5]] W fun e w' => Below W.heap.size W w' ∧ ∃ b0 d0 ys b2 d2 b5 d5 us, e = .returned (.agg #[.slice b0 ys.length d0, .int .i64 L.stack, .slice b2 L.slots.length d2, .int .i64 L.flash, .int .i64 L.ram, .slice b5 us.length d5]) ∧ LayO w' W.heap.size L b0 d0 ys b2 d2 b5 d5 us from toLayout_any L a0 c0 xs a2 c2 a5 c5 ts W (hL.below hb) HLS.out)
  obtain ⟨ps, hps⟩ : ∃ ps, ps = pmS ms := ⟨_, rfl⟩
  obtain ⟨ok, hok⟩ : ∃ ok : Bool, ok = true ↔ FitP ps L := by
    by_cases c : FitP ps L
    · exact ⟨true, by simp [c]⟩
    · exact ⟨false, by simp [c]⟩
  have HSP := hide (fun (g : Nat) (m : List Md) (W : World) (r : RowM W g n ms m) (hl : m.length = n) (b0 : Option Addr) (d0 : Nat) (ys : List PB) (b2 : Option Addr) (d2 : Nat) (b5 : Option Addr) (d5 : Nat) (us : List TB) (b : Nat) (y : LayO W b L b0 d0 ys b2 d2 b5 d5 us) => show Calls Tryz.prog 11 #[.slice (some ⟨g, 0, none⟩) n n, .agg #[.slice b0 ys.length d0, .int .i64 L.stack, .slice b2 L.slots.length d2, .int .i64 L.flash, .int .i64 L.ram, .slice b5 us.length d5]] W fun e w' => e = .returned (.bool ok) ∧ Below W.heap.size W w' from by
    refine (sFits_any (some ⟨g, 0, none⟩) n n m L b0 d0 ys b2 d2 b5 d5 us W (rowm_msd r hl h HZ.out) (y.lyt HR.out HV.out)).mono ?_
    rintro e w' ⟨v, he, hv, hb⟩
    rw [rowm_pms r hl h.1, ← hps] at hv
    have e1 : v = ok := by rw [Bool.eq_iff_iff, hv, hok]
    rw [he, e1]
    exact ⟨rfl, hb⟩)
  have HIM := hide (fun (g : Nat) (m : List Md) (W : World) (r : RowM W g n ms m) (hl : m.length = n) (b0 : Option Addr) (d0 : Nat) (ys : List PB) (b2 : Option Addr) (d2 : Nat) (b5 : Option Addr) (d5 : Nat) (us : List TB) (b : Nat) (y : LayO W b L b0 d0 ys b2 d2 b5 d5 us) => show Calls Tryz.prog 14 #[.slice (some ⟨g, 0, none⟩) n n, .agg #[.slice b0 ys.length d0, .int .i64 L.stack, .slice b2 L.slots.length d2, .int .i64 L.flash, .int .i64 L.ram, .slice b5 us.length d5]] W fun e w' => e = .returned (.bool ok) ∧ Below W.heap.size W w' from by
    refine (iFits_any (some ⟨g, 0, none⟩) n n m L b0 d0 ys b2 d2 b5 d5 us W (rowm_msd r hl h HZ.out) (y.lyt HR.out HV.out)).mono ?_
    rintro e w' ⟨v, he, hv, hb⟩
    rw [rowm_pms r hl h.1, ← hps] at hv
    have e1 : v = ok := by rw [Bool.eq_iff_iff, hv, hok]
    rw [he, e1]
    exact ⟨rfl, hb⟩)
  clear hps hok
  have hokk : (ok != ok) = false := by cases ok <;> rfl
  have HH := hide h
  go_enter Tryz.func3, Tryz.ntmps3
  go_wp2_with (rw [← HU.out])
  refine (HS.out _ (h.below HB0)).mono ?_
  rintro e w1 ⟨rfl, hb1⟩
  have hB1 := HB0.trans (hb1.mono HB0.size)
  have k1 := k0.below hb1
  clear hb1 HB0 k0 HS h HU
  obtain ⟨x0, x1, x2, x3, x4, x5⟩ := k1.ly6
  go_wp2_with fail
  refine (HSL.out _ hB1).mono ?_
  rintro e v1 ⟨rfl, hb1⟩
  have hB2 := hB1.trans (hb1.mono hB1.size)
  have k2 := k1.below hb1
  clear hb1 hB1 k1 HSL x0 x1 x2 x3 x4 x5
  obtain ⟨x0, x1, x2, x3, x4, x5⟩ := k2.ly6
  have HBK := hide (And.intro hB2 k2)
  clear hB2 k2 hL
  have HTZ := hide (fun (W0 X : World) (h0 : Below w.heap.size w W0) (hz : Zb #[] 158 W0 X none) => (HT.out X (h0.trans (hz.1.mono h0.size))).mono (fun e w' he => show e = .returned (.slice (some ⟨X.heap.size, 0, none⟩) n n) ∧ ∃ m, Z2 #[] 158 n ms W0 w' none X.heap.size m from ⟨he.1, by obtain ⟨_, ⟨m, hl, hr⟩, hb⟩ := he; exact ⟨m, hz.below hb, hr, hl⟩⟩))
  have HYZ := hide (fun (W0 X : World) (g : Nat) (m : List Md) (h0 : Below w.heap.size w W0) (hz : Z2 #[] 158 n ms W0 X none g m) => (HTL.out X (h0.trans (hz.z.1.mono h0.size))).mono (fun e w' he => show ∃ b0 d0 ys b2 d2 b5 d5 us, e = .returned (.agg #[.slice b0 ys.length d0, .int .i64 L.stack, .slice b2 L.slots.length d2, .int .i64 L.flash, .int .i64 L.ram, .slice b5 us.length d5]) ∧ Z4 #[] 158 n ms L W0 w' none g m b0 d0 ys b2 d2 b5 d5 us from by
    obtain ⟨hb, b0, d0, ys, b2, d2, b5, d5, us, e1, y⟩ := he
    exact ⟨b0, d0, ys, b2, d2, b5, d5, us, e1, hz.below hb, y.mono hz.z.1.size⟩))
  have HSZ := hide (fun (W0 X : World) (g : Nat) (m : List Md) (b0 : Option Addr) (d0 : Nat) (ys : List PB) (b2 : Option Addr) (d2 : Nat) (b5 : Option Addr) (d5 : Nat) (us : List TB) (hz : Z4 #[] 158 n ms L W0 X none g m b0 d0 ys b2 d2 b5 d5 us) => (HSP.out g m X hz.z.r hz.z.l b0 d0 ys b2 d2 b5 d5 us _ hz.y).mono (fun e w' he => show e = .returned (.bool ok) ∧ Below W0.heap.size W0 w' from ⟨he.1, hz.z.z.1.trans (he.2.mono hz.z.z.1.size)⟩))
  have HCL := hide (fun (W : World) (hb : Below v1.heap.size v1 W) => (HBK.out.2.below hb).ly6)
  go_wp2_with fail
  go_region_held3 (fun w' => w'.cell? ⟨w.heap.size, 0, none⟩ = some (.slice a0 xs.length c0) ∧ w'.cell? ⟨w.heap.size, 1, none⟩ = some (.int .i64 L.stack) ∧ w'.cell? ⟨w.heap.size, 2, none⟩ = some (.slice a2 L.slots.length c2) ∧ w'.cell? ⟨w.heap.size, 3, none⟩ = some (.int .i64 L.flash) ∧ w'.cell? ⟨w.heap.size, 4, none⟩ = some (.int .i64 L.ram) ∧ w'.cell? ⟨w.heap.size, 5, none⟩ = some (.slice a5 ts.length c5)) (go_keep)
    (first
      | (go_at_call 12; first
          | with_reducible refine (HTZ.out v1 _ HBK.out.1 (zb_new #[] 158 v1)).mono ?_
          | with_reducible refine (HTZ.out v1 _ HBK.out.1 (zb_new #[] 158 v1).drew).mono ?_
         rintro e xw2 ⟨rfl, xwm2, hY2⟩
         try simp only [World.size_alloc, drew_sz2] at hY2
         have xwY2 := hide hY2
         clear hY2
         obtain ⟨xwd0, xwd1, xwd2, xwd3, xwd4, xwd5⟩ := HCL.out xw2 xwY2.out.z.1)
      | (go_at_call 13; first
          | with_reducible refine (HYZ.out v1 _ _ _ HBK.out.1 xwY2.out).mono ?_
          | with_reducible refine (HYZ.out v1 _ _ _ HBK.out.1 xwY2.out.drew).mono ?_
         rintro e xw3 ⟨b0, d0, ys, b2, d2, b5, d5, us, rfl, hY3⟩
         have xwY3 := hide hY3
         clear hY3
         obtain ⟨xwe0, xwe1, xwe2, xwe3, xwe4, xwe5⟩ := HCL.out xw3 xwY3.out.z.z.1)
      | (go_at_call 11; first
          | with_reducible refine (HSZ.out v1 _ _ _ _ _ _ _ _ _ _ _ xwY3.out).mono ?_
          | with_reducible refine (HSZ.out v1 _ _ _ _ _ _ _ _ _ _ _ xwY3.out.drew).mono ?_
         rintro e xw4 ⟨rfl, hY4⟩
         have xwY4 := hide hY4
         clear hY4
         obtain ⟨xwf0, xwf1, xwf2, xwf3, xwf4, xwf5⟩ := HCL.out xw4 xwY4.out))
  generalize xw4 = W5 at *
  have HKp := hide (And.intro (HBK.out.1.trans (xwY4.out.mono HBK.out.1.size)) (HBK.out.2.below xwY4.out))
  clear HBK HCL HSZ HSP x0 x1 x2 x3 x4 x5 xwY2 xwY3 xwY4 xwd0 xwd1 xwd2 xwd3 xwd4 xwd5 xwe0 xwe1 xwe2 xwe3 xwe4 xwe5 xwf0 xwf1 xwf2 xwf3 xwf4 xwf5
  go_wp2_with fail
  refine (HT.out W5 HKp.out.1).mono ?_
  rintro e w6 ⟨rfl, ⟨mx, lx, rx⟩, hb6⟩
  have E6 := HKp.out.1.trans (hb6.mono HKp.out.1.size)
  have C6 := HKp.out.2.below hb6
  have HRX := hide rx
  clear hb6 rx HKp
  obtain ⟨x0, x1, x2, x3, x4, x5⟩ := C6.ly6
  go_wp2_with fail
  refine (HTL.out w6 E6).mono ?_
  rintro e w7 ⟨hb7, e0, f0, zs, e2, f2, e5, f5, vs, rfl, Y7⟩
  have hA7 : Below w7.heap.size w7 (w7.alloc (.cells #[.slice e0 zs.length f0, .int .i64 L.stack, .slice e2 L.slots.length f2, .int .i64 L.flash, .int .i64 L.ram, .slice e5 vs.length f5] 36)) := (Below.refl _ _).alloc (Nat.le_refl _) _
  have k7 := Blk.new w7 #[.slice e0 zs.length f0, .int .i64 L.stack, .slice e2 L.slots.length f2, .int .i64 L.flash, .int .i64 L.ram, .slice e5 vs.length f5] 36
  have B7 := hb7.trans (hA7.mono hb7.size)
  have E7 := E6.trans (B7.mono E6.size)
  have C7 := C6.below B7
  have Y8 := Y7.below' hA7
  clear E6 C6 hb7 hA7 Y7 x0 x1 x2 x3 x4 x5
  obtain ⟨x0, x1, x2, x3, x4, x5⟩ := k7.ly6
  go_wp2_with fail
  clear x0 x1 x2 x3 x4 x5
  generalize w7.alloc (.cells #[.slice e0 zs.length f0, .int .i64 L.stack, .slice e2 L.slots.length f2, .int .i64 L.flash, .int .i64 L.ram, .slice e5 vs.length f5] 36) = W7 at *
  generalize w7.heap.size = g7 at *
  refine (HIM.out _ mx W7 (HRX.out.below B7) lx e0 f0 zs e2 f2 e5 f5 vs _ Y8).mono ?_
  rintro e w8 ⟨rfl, hb8⟩
  have E8 := E7.trans (hb8.mono E7.size)
  have C8 := C7.below hb8
  have B8 := B7.trans (hb8.mono B7.size)
  have k8 := k7.below hb8
  have Y9 := Y8.below' hb8
  clear E7 C7 B7 k7 Y8 hb8
  go_wp2_with fail
  refine (HT.out w8 E8).mono ?_
  rintro e w10 ⟨rfl, ⟨my, ly, ry⟩, hb10⟩
  have E10 := E8.trans (hb10.mono E8.size)
  have C10 := C8.below hb10
  have B10 := B8.trans (hb10.mono B8.size)
  have k10 := k8.below hb10
  have Y10 := Y9.below' hb10
  clear E8 C8 B8 k8 Y9 hb10
  go_wp2_with fail
  refine (eqModuleS_same _ _ n n n mx my _ ((HRX.out.below B10).ms lx HH.out) (ry.ms ly HH.out) (RowM.same HH.out (HRX.out.below B10) lx ry ly)).mono ?_
  rintro e w11 ⟨rfl, hb11⟩
  have HA11 := hide (And.intro (E10.trans (hb11.mono E10.size)) (And.intro (C10.below hb11) (And.intro (k10.below hb11) (Y10.below' hb11))))
  clear E10 C10 B10 k10 Y10 hb11 ry HRX
  have HCX := hide (fun (W : World) (hb : Below w11.heap.size w11 W) => And.intro (HA11.out.2.1.below hb).ly6 (HA11.out.2.2.1.below hb).ly6)
  obtain ⟨⟨x0, x1, x2, x3, x4, x5⟩, ⟨y0, y1, y2, y3, y4, y5⟩⟩ := HCX.out _ (Below.refl _ _)
  have HTX := hide (fun (X : World) (hb : Below w11.heap.size w11 X) => (HTL.out X (HA11.out.1.trans (hb.mono HA11.out.1.size))).mono (fun e w' he => show ∃ b0 d0 ys b2 d2 b5 d5 us, e = .returned (.agg #[.slice b0 ys.length d0, .int .i64 L.stack, .slice b2 L.slots.length d2, .int .i64 L.flash, .int .i64 L.ram, .slice b5 us.length d5]) ∧ Below w11.heap.size w11 w' ∧ LayO w' X.heap.size L b0 d0 ys b2 d2 b5 d5 us from by
    obtain ⟨hb2, b0, d0, ys, b2, d2, b5, d5, us, e1, y⟩ := he
    exact ⟨b0, d0, ys, b2, d2, b5, d5, us, e1, hb.trans (hb2.mono hb.size), y⟩))
  go_wp2_with fail
  go_region_held3 (fun w' => w'.cell? ⟨w.heap.size, 0, none⟩ = some (.slice a0 xs.length c0) ∧ w'.cell? ⟨w.heap.size, 1, none⟩ = some (.int .i64 L.stack) ∧ w'.cell? ⟨w.heap.size, 2, none⟩ = some (.slice a2 L.slots.length c2) ∧ w'.cell? ⟨w.heap.size, 3, none⟩ = some (.int .i64 L.flash) ∧ w'.cell? ⟨w.heap.size, 4, none⟩ = some (.int .i64 L.ram) ∧ w'.cell? ⟨w.heap.size, 5, none⟩ = some (.slice a5 ts.length c5) ∧ w'.cell? ⟨g7, 0, none⟩ = some (.slice e0 zs.length f0) ∧ w'.cell? ⟨g7, 1, none⟩ = some (.int .i64 L.stack) ∧ w'.cell? ⟨g7, 2, none⟩ = some (.slice e2 L.slots.length f2) ∧ w'.cell? ⟨g7, 3, none⟩ = some (.int .i64 L.flash) ∧ w'.cell? ⟨g7, 4, none⟩ = some (.int .i64 L.ram) ∧ w'.cell? ⟨g7, 5, none⟩ = some (.slice e5 vs.length f5)) (go_keep)
    (first
      | (go_at_call 13; first
          | with_reducible refine (HTX.out _ (Below.refl _ _)).mono ?_
          | with_reducible refine (HTX.out _ (Below.refl _ _).drew).mono ?_
         rintro e j2 ⟨b0, d0, ys, b2, d2, b5, d5, us, rfl, hj2, yj2⟩
         have HJ2 := hide (And.intro hj2 yj2)
         clear hj2 yj2
         obtain ⟨⟨u0', u1', u2', u3', u4', u5'⟩, ⟨v0', v1', v2', v3', v4', v5'⟩⟩ := HCX.out _ HJ2.out.1)
      | (go_at_call 16; refine (eqLayout_same HR.out (HA11.out.2.2.2.below' HJ2.out.1) HJ2.out.2).mono ?_
         rintro e j3 ⟨rfl, hj3⟩
         have HJ3 := hide (HJ2.out.1.trans (hj3.mono HJ2.out.1.size))
         clear hj3
         obtain ⟨⟨u0'', u1'', u2'', u3'', u4'', u5''⟩, ⟨v0'', v1'', v2'', v3'', v4'', v5''⟩⟩ := HCX.out _ HJ3.out))
  have HB := hide (HA11.out.1.trans (HJ3.out.mono HA11.out.1.size))
  clear x0 x1 x2 x3 x4 x5 y0 y1 y2 y3 y4 y5 u0' u1' u2' u3' u4' u5' v0' v1' v2' v3' v4' v5' u0'' u1'' u2'' u3'' u4'' u5'' v0'' v1'' v2'' v3'' v4'' v5'' HJ2 HJ3 HA11 HCX HTX
  go_wp2
  go_ret
  exact ⟨rfl, HB.out⟩
end Go.Proofs.YtngdgogjlpjjpaeGreat

namespace Go.Proofs.YtngdgogjlpjjpaeGreat
open Go.ChangeShapes Go.WideShapes Go.ChangeAt Go.RowKit
set_option linter.unusedVariables false

theorem own : ownKnob Tryz.prog.godebug = none := by kernel_rfl
theorem laidOut : laidOutB Tryz.prog = true := by kernel_rfl

theorem wf_u8 {z : Int} (h : (Lit.int .u8 z).wf = true) : 0 ≤ z ∧ z ≤ 255 := by
  simp [Lit.wf, IntKind.min, IntKind.max, IntKind.signed, IntKind.bits] at h
  omega

theorem wf_i64 {z : Int} (h : (Lit.int .i64 z).wf = true) : -9223372036854775808 ≤ z ∧ z ≤ 9223372036854775807 := by
  simp [Lit.wf, IntKind.min, IntKind.max, IntKind.signed, IntKind.bits] at h
  omega

set_option maxRecDepth 100000 in
theorem bs_of_trod {H : Type} {enc : TypeId × Value → H} {w : World} {base : Nat} {held : Bool} {fuel : Nat} {cs : List Value} {x : DataW H × List MemPlace}
    (h : DataW.trod enc Tryz.prog w base (fun _ => true) held fuel 41 cs = some x) : ∃ a n cap zs, cs = [.slice a n cap] ∧ BS w a n cap zs := by
  rcases open_ints Tryz.underlying41 Tryz.underlying5 (by kernel_rfl) h with ⟨hcs, _⟩ | ⟨x, l, c, zs, hcs, _, hl, hm, hz, _, hcell, hwz⟩
  · exact ⟨none, 0, 0, [], hcs, rfl, Nat.zero_le _, by simp, fun h => absurd rfl h, Nat.le_refl _⟩
  · simp at hz
    refine ⟨some x, l, c, zs.take l, hcs, by simp; omega, by omega, fun z hz' => wf_u8 (hwz z (List.mem_of_mem_take hz')), fun hl0 => ?_, hl⟩
    obtain ⟨b, off, spot⟩ := x
    have hspot : spot = none := by simpa [Addr.add] using World.cell?_spot (hcell 0 (by omega))
    subst hspot
    refine ⟨b, off, rfl, fun i hi => ?_⟩
    have := hcell i (by omega)
    have ea : (Addr.add ⟨b, off, none⟩ i) = ⟨b, off + i, none⟩ := by
      simp only [Addr.add]
      split
      · next h => subst h; rfl
      · rfl
    rw [ea] at this
    rw [this]
    simp [List.getD_eq_getElem?_getD, hi]

set_option maxRecDepth 100000 in
theorem open_bytes {H : Type} {enc : TypeId × Value → H} {w : World} {base b0 : Nat} {held : Bool} {r : Reach} {v : Value} {d : DataW H} {p : List MemPlace}
    (hv : Value.okWide Tryz.prog w r b0 41 v) (h : DataW.Trod enc Tryz.prog w base (fun _ => true) held 41 v d p) :
    ∃ a n cap zs, v = .slice a n cap ∧ BS w a n cap zs := by
  obtain ⟨a0, len0, cap0, rfl⟩ := okWide_slice Tryz.underlying41 hv
  obtain ⟨fuel, hf⟩ := h
  obtain ⟨a, n, cap, zs, hcs, hb⟩ := bs_of_trod hf
  simp [Value.cells] at hcs
  obtain ⟨rfl, rfl, rfl⟩ := hcs
  exact ⟨_, _, _, zs, rfl, hb⟩

end Go.Proofs.YtngdgogjlpjjpaeGreat

namespace Go.Proofs.YtngdgogjlpjjpaeGreat
open Go.ChangeShapes Go.WideShapes Go.ChangeAt Go.RowKit
set_option linter.unusedVariables false

theorem addM (b off i : Nat) : (Addr.add ⟨b, off, none⟩ i) = ⟨b, off + i, none⟩ := by
  simp only [Addr.add]
  split
  · next h => subst h; rfl
  · rfl
set_option maxRecDepth 100000 in
theorem ints_of_trod {H : Type} {enc : TypeId × Value → H} {w : World} {base : Nat} {held : Bool} {fuel : Nat} {cs : List Value} {x : DataW H × List MemPlace}
    (h : DataW.trod enc Tryz.prog w base (fun _ => true) held fuel 24 cs = some x) : ∃ a n cap zs, cs = [.slice a n cap] ∧ IS w a n cap zs := by
  rcases open_ints Tryz.underlying24 Tryz.underlying3 (by kernel_rfl) h with ⟨hcs, _⟩ | ⟨x, l, c, zs, hcs, _, hl, hm, hz, _, hcell, hwz⟩
  · exact ⟨none, 0, 0, [], hcs, rfl, Nat.zero_le _, by simp, fun h => absurd rfl h, Nat.le_refl _⟩
  · simp at hz
    refine ⟨some x, l, c, zs.take l, hcs, by simp; omega, by omega, fun z hz' => wf_i64 (hwz z (List.mem_of_mem_take hz')), fun hl0 => ?_, hl⟩
    obtain ⟨b, off, spot⟩ := x
    have hspot : spot = none := by simpa [Addr.add] using World.cell?_spot (hcell 0 (by omega))
    subst hspot
    refine ⟨b, off, rfl, fun i hi => ?_⟩
    have := hcell i (by omega)
    rw [addM] at this
    rw [this]
    simp [List.getD_eq_getElem?_getD, hi]

set_option maxRecDepth 100000 in
theorem bks_of_trod {H : Type} {enc : TypeId × Value → H} {w : World} {base : Nat} {held : Bool} {fuel : Nat} {cs : List Value} {x : DataW H × List MemPlace}
    (h : DataW.trod enc Tryz.prog w base (fun _ => true) held fuel 93 cs = some x) : ∃ a n cap bl, cs = [.slice a n cap] ∧ BKS w a n cap bl := by
  have e1 : Tryz.prog.cellsOf 24 = 1 := by kernel_rfl
  rcases Deep.open_slice Tryz.underlying93 h with ⟨hcs, _⟩ | ⟨a, len, cap, m, n, D, Pl, hcs, hb, hl, hm, hmm, hx, hd⟩
  · exact ⟨none, 0, 0, [], hcs, rfl, Nat.zero_le _, fun h => absurd rfl h, fun i hi => by omega, Nat.le_refl _⟩
  · simp at hmm
    rw [hmm] at hd
    rw [e1] at hd
    obtain ⟨G, hG⟩ := Deep.choose_lt (α := Bk) (p := fun i g => (∃ cs', w.cells? base (a.add (i * 1)) 1 = some cs' ∧ cs' = [Value.slice g.1 g.2.1 g.2.2.1]) ∧ IS w g.1 g.2.1 g.2.2.1 g.2.2.2) (n := len) (fun i hi => by
      obtain ⟨cs', h1, h2⟩ := hd i (by omega)
      obtain ⟨a', n', c', zs', e, hI⟩ := ints_of_trod h2
      exact ⟨(a', n', c', zs'), ⟨cs', h1, e⟩, hI⟩)
    have hgi : ∀ i, i < len → ((List.range len).map G).getD i zB = G i := fun i hi => by simp [List.getD_eq_getElem?_getD, hi]
    refine ⟨some a, len, cap, (List.range len).map G, hcs, by simp, by omega, ?_, fun i hi => by rw [hgi i hi]; exact (hG i hi).2, hl⟩
    intro hn
    obtain ⟨b, off, spot⟩ := a
    have hspot : spot = none := by
      obtain ⟨⟨cs', h1, h2⟩, _⟩ := hG 0 (by omega)
      have := (World.cells?_some h1).2.2 0 (by omega)
      rw [h2] at this
      simpa [Addr.add] using World.cell?_spot this
    subst hspot
    refine ⟨b, off, rfl, fun i hi => ?_⟩
    obtain ⟨⟨cs', h1, h2⟩, _⟩ := hG i hi
    have hc := (World.cells?_some h1).2.2
    rw [h2] at hc
    rw [hgi i hi]
    simp only [addM] at hc
    simpa using hc 0 (by omega)

set_option maxRecDepth 100000 in
theorem ts_of_trod {H : Type} {enc : TypeId × Value → H} {w : World} {base : Nat} {held : Bool} {fuel : Nat} {cs : List Value} {x : DataW H × List MemPlace}
    (h : DataW.trod enc Tryz.prog w base (fun _ => true) held fuel 94 cs = some x) : ∃ a n cap ss, cs = [.slice a n cap] ∧ TS w a n cap ss := by
  have e1 : Tryz.prog.cellsOf 9 = 1 := by kernel_rfl
  have ez : zS.size ≤ maxLen := by decide
  rcases Deep.open_slice Tryz.underlying94 h with ⟨hcs, _⟩ | ⟨a, len, cap, m, n, D, Pl, hcs, hb, hl, hm, hmm, hx, hd⟩
  · exact ⟨none, 0, 0, [], hcs, rfl, Nat.zero_le _, fun i => by simpa using ez, fun h => absurd rfl h, Nat.le_refl _⟩
  · simp at hmm
    rw [hmm] at hd
    rw [e1] at hd
    obtain ⟨G, hG⟩ := Deep.choose_lt (α := ByteArray) (p := fun i g => (∃ cs', w.cells? base (a.add (i * 1)) 1 = some cs' ∧ cs' = [Value.string g]) ∧ g.size ≤ maxLen) (n := len) (fun i hi => by
      obtain ⟨cs', h1, h2⟩ := hd i (by omega)
      obtain ⟨s, e, _, hI⟩ := DataW.trod_string Tryz.underlying9 h2
      exact ⟨s, ⟨cs', h1, e⟩, hI⟩)
    have hgi : ∀ i, i < len → ((List.range len).map G).getD i zS = G i := fun i hi => by simp [List.getD_eq_getElem?_getD, hi]
    refine ⟨some a, len, cap, (List.range len).map G, hcs, by simp, by omega, fun i => ?_, ?_, hl⟩
    · by_cases hi : i < len
      · rw [hgi i hi]; exact (hG i hi).2
      · rw [List.getD_eq_getElem?_getD, List.getElem?_eq_none (by simp; omega)]; exact ez
    intro hn
    obtain ⟨b, off, spot⟩ := a
    have hspot : spot = none := by
      obtain ⟨⟨cs', h1, h2⟩, _⟩ := hG 0 (by omega)
      have := (World.cells?_some h1).2.2 0 (by omega)
      rw [h2] at this
      simpa [Addr.add] using World.cell?_spot this
    subst hspot
    refine ⟨b, off, rfl, fun i hi => ?_⟩
    obtain ⟨⟨cs', h1, h2⟩, _⟩ := hG i hi
    have hc := (World.cells?_some h1).2.2
    rw [h2] at hc
    rw [hgi i hi]
    simp only [addM] at hc
    simpa using hc 0 (by omega)

set_option maxRecDepth 100000 in
theorem export_cells {H : Type} {enc : TypeId × Value → H} {w : World} {base : Nat} {held : Bool} {spare : Nat → Bool} {fuel : Nat} {cs : List Value} {x : DataW H × List MemPlace}
    (h : DataW.trod enc Tryz.prog w base spare held fuel 242 cs = some x) : ∃ g : Ex, cs = [.string g.1, .int .i64 g.2.1, .int .i64 g.2.2] ∧ g.1.size ≤ maxLen := by
  obtain ⟨xs, n, _, _, hl, hlen, hf⟩ := DataW.trod_struct Tryz.underlying242 h
  have e6 : Tryz.prog.cellsOf 242 = 3 := by kernel_rfl
  rw [e6] at hl
  match xs, hlen, cs, hl with
  | [y0, y1, y2], _, [c0, c1, c2], _ =>
  have k0 := hf 0 _ rfl
  have k1 := hf 1 _ rfl
  have k2 := hf 2 _ rfl
  have e3 : Tryz.prog.cellsOf 3 = 1 := by kernel_rfl
  have e4 : Tryz.prog.cellsOf 9 = 1 := by kernel_rfl
  simp [e3, e4] at k0 k1 k2
  obtain ⟨a0, h0, _, wa⟩ := DataW.trod_string Tryz.underlying9 k0
  obtain ⟨a1, h1, _, wb⟩ := DataW.trod_int Tryz.underlying3 k1
  obtain ⟨a2, h2, _, wc⟩ := DataW.trod_int Tryz.underlying3 k2
  simp at h0 h1 h2
  subst h0 h1 h2
  exact ⟨(a0, a1, a2), rfl, wa⟩

set_option maxRecDepth 100000 in
theorem te_of_trod {H : Type} {enc : TypeId × Value → H} {w : World} {base : Nat} {held : Bool} {fuel : Nat} {cs : List Value} {x : DataW H × List MemPlace}
    (h : DataW.trod enc Tryz.prog w base (fun _ => true) held fuel 95 cs = some x) : ∃ a n cap es, cs = [.slice a n cap] ∧ TE w a n cap es := by
  have e1 : Tryz.prog.cellsOf 242 = 3 := by kernel_rfl
  have ez : (zE).1.size ≤ maxLen := by decide
  rcases Deep.open_slice Tryz.underlying95 h with ⟨hcs, _⟩ | ⟨a, len, cap, m, n, D, Pl, hcs, hb, hl, hm, hmm, hx, hd⟩
  · exact ⟨none, 0, 0, [], hcs, rfl, Nat.zero_le _, fun i => by simpa using ez, fun h => absurd rfl h, Nat.le_refl _⟩
  · simp at hmm
    rw [hmm] at hd
    rw [e1] at hd
    obtain ⟨G, hG⟩ := Deep.choose_lt (α := Ex) (p := fun i g => (∃ cs', w.cells? base (a.add (i * 3)) 3 = some cs' ∧ cs' = [.string g.1, .int .i64 g.2.1, .int .i64 g.2.2]) ∧ g.1.size ≤ maxLen) (n := len) (fun i hi => by
      obtain ⟨cs', h1, h2⟩ := hd i (by omega)
      obtain ⟨s, e, hI⟩ := export_cells h2
      exact ⟨s, ⟨cs', h1, e⟩, hI⟩)
    have hgi : ∀ i, i < len → ((List.range len).map G).getD i zE = G i := fun i hi => by simp [List.getD_eq_getElem?_getD, hi]
    refine ⟨some a, len, cap, (List.range len).map G, hcs, by simp, by omega, fun i => ?_, ?_, hl⟩
    · by_cases hi : i < len
      · rw [hgi i hi]; exact (hG i hi).2
      · rw [List.getD_eq_getElem?_getD, List.getElem?_eq_none (by simp; omega)]; exact ez
    intro hn
    obtain ⟨b, off, spot⟩ := a
    have hspot : spot = none := by
      obtain ⟨⟨cs', h1, h2⟩, _⟩ := hG 0 (by omega)
      have := (World.cells?_some h1).2.2 0 (by omega)
      rw [h2] at this
      simpa [Addr.add] using World.cell?_spot this
    subst hspot
    refine ⟨b, off, rfl, fun i hi => ?_⟩
    obtain ⟨⟨cs', h1, h2⟩, _⟩ := hG i hi
    have hc := (World.cells?_some h1).2.2
    rw [h2] at hc
    rw [hgi i hi]
    simp only [addM] at hc
    exact ⟨hc 0 (by omega), hc 1 (by omega), hc 2 (by omega)⟩

theorem array8 {α : Type} {cs : Array α} (h : cs.size = 8) : ∃ c0 c1 c2 c3 c4 c5 c6 c7, cs = #[c0, c1, c2, c3, c4, c5, c6, c7] := by
  obtain ⟨l⟩ := cs
  match l, h with
  | [c0, c1, c2, c3, c4, c5, c6, c7], _ => exact ⟨c0, c1, c2, c3, c4, c5, c6, c7, rfl⟩

set_option maxRecDepth 100000 in
theorem open_module {H : Type} {enc : TypeId × Value → H} {w : World} {base b0 : Nat} {held : Bool} {r : Reach} {v : Value} {d : DataW H} {p : List MemPlace}
    (hv : Value.okWide Tryz.prog w r b0 97 v) (h : DataW.Trod enc Tryz.prog w base (fun _ => true) held 97 v d p) :
    ∃ (nm : ByteArray) (ta : Option Addr) (tn tc : Nat) (tz : List Int) (ba : Option Addr) (bn bc : Nat) (bl : List Bk) (da : Option Addr) (dn dc : Nat) (dz : List Int) (bss : Int) (ra : Option Addr) (rn rc : Nat) (rz : List Int) (ia : Option Addr) (im ic : Nat) (ss : List ByteArray) (ea : Option Addr) (en ec : Nat) (es : List Ex),
      v = .agg #[.string nm, .slice ta tn tc, .slice ba bn bc, .slice da dn dc, .int .i64 bss, .slice ra rn rc, .slice ia im ic, .slice ea en ec] ∧ MT w nm ta tn tc tz ba bn bc bl da dn dc dz bss ra rn rc rz ia im ic ss ea en ec es := by
  obtain ⟨cs, rfl, hsz⟩ := okWide_struct Tryz.underlying97 hv
  obtain ⟨c0, c1, c2, c3, c4, c5, c6, c7, rfl⟩ := array8 (hsz.trans (by kernel_rfl))
  obtain ⟨fuel, hf⟩ := h
  obtain ⟨xs, n, _, _, hl, hlen, hf⟩ := DataW.trod_struct Tryz.underlying97 hf
  match xs, hlen with
  | [y0, y1, y2, y3, y4, y5, y6, y7], _ =>
  have k0 := hf 0 _ rfl
  have k1 := hf 1 _ rfl
  have k2 := hf 2 _ rfl
  have k3 := hf 3 _ rfl
  have k4 := hf 4 _ rfl
  have k5 := hf 5 _ rfl
  have k6 := hf 6 _ rfl
  have k7 := hf 7 _ rfl
  have e1 : Tryz.prog.cellsOf 3 = 1 := by kernel_rfl
  have e2 : Tryz.prog.cellsOf 9 = 1 := by kernel_rfl
  have e3 : Tryz.prog.cellsOf 24 = 1 := by kernel_rfl
  have e4 : Tryz.prog.cellsOf 93 = 1 := by kernel_rfl
  have e5 : Tryz.prog.cellsOf 41 = 1 := by kernel_rfl
  have e6 : Tryz.prog.cellsOf 94 = 1 := by kernel_rfl
  have e7 : Tryz.prog.cellsOf 95 = 1 := by kernel_rfl
  simp [Value.cells, e1, e2, e3, e4, e5, e6, e7] at k0 k1 k2 k3 k4 k5 k6 k7
  obtain ⟨nm, h0, _, w0⟩ := DataW.trod_string Tryz.underlying9 k0
  obtain ⟨ta, tn, tc, tz, h1, w1⟩ := ints_of_trod k1
  obtain ⟨ba, bn, bc, bl, h2, w2⟩ := bks_of_trod k2
  obtain ⟨da, dn, dc, dz, h3, w3⟩ := bs_of_trod k3
  obtain ⟨bss, h4, _, w4⟩ := DataW.trod_int Tryz.underlying3 k4
  obtain ⟨ra, rn, rc, rz, h5, w5⟩ := ints_of_trod k5
  obtain ⟨ia, im, ic, ss, h6, w6⟩ := ts_of_trod k6
  obtain ⟨ea, en, ec, es, h7, w7⟩ := te_of_trod k7
  simp at h0 h1 h2 h3 h4 h5 h6 h7
  subst h0 h1 h2 h3 h4 h5 h6 h7
  exact ⟨nm, ta, tn, tc, tz, ba, bn, bc, bl, da, dn, dc, dz, bss, ra, rn, rc, rz, ia, im, ic, ss, ea, en, ec, es, rfl, w0, w1, w2, w3, wf_i64 w4, w5, w6, w7⟩
end Go.Proofs.YtngdgogjlpjjpaeGreat

namespace Go.Proofs.YtngdgogjlpjjpaeGreat
open Go.ChangeShapes Go.WideShapes Go.ChangeAt Go.RowKit
set_option linter.unusedVariables false

set_option maxRecDepth 100000 in
theorem module_cells {H : Type} {enc : TypeId × Value → H} {w : World} {base : Nat} {held : Bool} {fuel : Nat} {cs : List Value} {x : DataW H × List MemPlace}
    (h : DataW.trod enc Tryz.prog w base (fun _ => true) held fuel 97 cs = some x) : ∃ m : Md, cs = m.cells.toList ∧ m.mt w := by
  obtain ⟨xs, n, _, _, hl, hlen, hf⟩ := DataW.trod_struct Tryz.underlying97 h
  have e8 : Tryz.prog.cellsOf 97 = 8 := by kernel_rfl
  rw [e8] at hl
  match xs, hlen, cs, hl with
  | [y0, y1, y2, y3, y4, y5, y6, y7], _, [c0, c1, c2, c3, c4, c5, c6, c7], _ =>
  have k0 := hf 0 _ rfl
  have k1 := hf 1 _ rfl
  have k2 := hf 2 _ rfl
  have k3 := hf 3 _ rfl
  have k4 := hf 4 _ rfl
  have k5 := hf 5 _ rfl
  have k6 := hf 6 _ rfl
  have k7 := hf 7 _ rfl
  have e1 : Tryz.prog.cellsOf 3 = 1 := by kernel_rfl
  have e2 : Tryz.prog.cellsOf 9 = 1 := by kernel_rfl
  have e3 : Tryz.prog.cellsOf 24 = 1 := by kernel_rfl
  have e4 : Tryz.prog.cellsOf 93 = 1 := by kernel_rfl
  have e5 : Tryz.prog.cellsOf 41 = 1 := by kernel_rfl
  have e6 : Tryz.prog.cellsOf 94 = 1 := by kernel_rfl
  have e7 : Tryz.prog.cellsOf 95 = 1 := by kernel_rfl
  simp [e1, e2, e3, e4, e5, e6, e7] at k0 k1 k2 k3 k4 k5 k6 k7
  obtain ⟨nm, h0, _, w0⟩ := DataW.trod_string Tryz.underlying9 k0
  obtain ⟨ta, tn, tc, tz, h1, w1⟩ := ints_of_trod k1
  obtain ⟨ba, bn, bc, bl, h2, w2⟩ := bks_of_trod k2
  obtain ⟨da, dn, dc, dz, h3, w3⟩ := bs_of_trod k3
  obtain ⟨bss, h4, _, w4⟩ := DataW.trod_int Tryz.underlying3 k4
  obtain ⟨ra, rn, rc, rz, h5, w5⟩ := ints_of_trod k5
  obtain ⟨ia, im, ic, ss, h6, w6⟩ := ts_of_trod k6
  obtain ⟨ea, en, ec, es, h7, w7⟩ := te_of_trod k7
  simp at h0 h1 h2 h3 h4 h5 h6 h7
  subst h0 h1 h2 h3 h4 h5 h6 h7
  exact ⟨⟨nm, ta, tn, tc, tz, ba, bn, bc, bl, da, dn, dc, dz, bss, ra, rn, rc, rz, ia, im, ic, ss, ea, en, ec, es⟩, rfl, w0, w1, w2, w3, wf_i64 w4, w5, w6, w7⟩

set_option maxRecDepth 100000 in
theorem ms_of_trod {H : Type} {enc : TypeId × Value → H} {w : World} {base : Nat} {held : Bool} {fuel : Nat} {cs : List Value} {x : DataW H × List MemPlace}
    (h : DataW.trod enc Tryz.prog w base (fun _ => true) held fuel 22 cs = some x) : ∃ a n cap ms, cs = [.slice a n cap] ∧ MS w a n cap ms := by
  have e1 : Tryz.prog.cellsOf 97 = 8 := by kernel_rfl
  rcases Deep.open_slice Tryz.underlying22 h with ⟨hcs, _⟩ | ⟨a, len, cap, m, n, D, Pl, hcs, hb, hl, hm, hmm, hx, hd⟩
  · exact ⟨none, 0, 0, [], hcs, rfl, Nat.zero_le _, fun h => absurd rfl h, fun i hi => by omega, Nat.le_refl _⟩
  · simp at hmm
    rw [hmm] at hd
    rw [e1] at hd
    haveI : Inhabited Md := ⟨zMd⟩
    obtain ⟨G, hG⟩ := Deep.choose_lt (α := Md) (p := fun i g => (∃ cs', w.cells? base (a.add (i * 8)) 8 = some cs' ∧ cs' = g.cells.toList) ∧ g.mt w) (n := len) (fun i hi => by
      obtain ⟨cs', h1, h2⟩ := hd i (by omega)
      obtain ⟨s, e, hI⟩ := module_cells h2
      exact ⟨s, ⟨cs', h1, e⟩, hI⟩)
    have hgi : ∀ i, i < len → ((List.range len).map G).getD i zMd = G i := fun i hi => by simp [List.getD_eq_getElem?_getD, hi]
    refine ⟨some a, len, cap, (List.range len).map G, hcs, by simp, by omega, ?_, fun i hi => by rw [hgi i hi]; exact (hG i hi).2, hl⟩
    intro hn
    obtain ⟨b, off, spot⟩ := a
    have hspot : spot = none := by
      obtain ⟨⟨cs', h1, h2⟩, _⟩ := hG 0 (by omega)
      have := (World.cells?_some h1).2.2 0 (by omega)
      rw [h2] at this
      simpa [Addr.add, Md.cells] using World.cell?_spot this
    subst hspot
    refine ⟨b, off, rfl, fun i hi => ?_⟩
    obtain ⟨⟨cs', h1, h2⟩, _⟩ := hG i hi
    have hc := (World.cells?_some h1).2.2
    rw [h2] at hc
    rw [hgi i hi]
    simp only [addM] at hc
    exact ⟨hc 0 (by omega), hc 1 (by omega), hc 2 (by omega), hc 3 (by omega), hc 4 (by omega), hc 5 (by omega), hc 6 (by omega), hc 7 (by omega)⟩

set_option maxRecDepth 100000 in
theorem open_modules {H : Type} {enc : TypeId × Value → H} {w : World} {base b0 : Nat} {held : Bool} {r : Reach} {v : Value} {d : DataW H} {p : List MemPlace}
    (hv : Value.okWide Tryz.prog w r b0 22 v) (h : DataW.Trod enc Tryz.prog w base (fun _ => true) held 22 v d p) :
    ∃ a n cap ms, v = .slice a n cap ∧ MS w a n cap ms := by
  obtain ⟨a0, len0, cap0, rfl⟩ := okWide_slice Tryz.underlying22 hv
  obtain ⟨fuel, hf⟩ := h
  obtain ⟨a, n, cap, ms, e, hm⟩ := ms_of_trod hf
  simp [Value.cells] at e
  obtain ⟨rfl, rfl, rfl⟩ := e
  exact ⟨_, _, _, ms, rfl, hm⟩
end Go.Proofs.YtngdgogjlpjjpaeGreat

namespace Go.Proofs.YtngdgogjlpjjpaeGreat
open Go.ChangeShapes Go.WideShapes Go.ChangeAt Go.RowKit
set_option linter.unusedVariables false

set_option maxRecDepth 100000 in
theorem target_cells {H : Type} {enc : TypeId × Value → H} {w : World} {base : Nat} {held : Bool} {spare : Nat → Bool} {fuel : Nat} {cs : List Value} {x : DataW H × List MemPlace}
    (h : DataW.trod enc Tryz.prog w base spare held fuel 67 cs = some x) : ∃ g : Tg, cs = [.int .i64 g.1, .int .i64 g.2.1, .int .i64 g.2.2] := by
  obtain ⟨xs, n, _, _, hl, hlen, hf⟩ := DataW.trod_struct Tryz.underlying67 h
  have e6 : Tryz.prog.cellsOf 67 = 3 := by kernel_rfl
  rw [e6] at hl
  match xs, hlen, cs, hl with
  | [y0, y1, y2], _, [c0, c1, c2], _ =>
  have k0 := hf 0 _ rfl
  have k1 := hf 1 _ rfl
  have k2 := hf 2 _ rfl
  have e3 : Tryz.prog.cellsOf 3 = 1 := by kernel_rfl
  simp [e3] at k0 k1 k2
  obtain ⟨a0, h0, _, wa⟩ := DataW.trod_int Tryz.underlying3 k0
  obtain ⟨a1, h1, _, wb⟩ := DataW.trod_int Tryz.underlying3 k1
  obtain ⟨a2, h2, _, wc⟩ := DataW.trod_int Tryz.underlying3 k2
  simp at h0 h1 h2
  subst h0 h1 h2
  exact ⟨(a0, a1, a2), rfl⟩

set_option maxRecDepth 100000 in
theorem tg_of_trod {H : Type} {enc : TypeId × Value → H} {w : World} {base : Nat} {held : Bool} {fuel : Nat} {cs : List Value} {x : DataW H × List MemPlace}
    (h : DataW.trod enc Tryz.prog w base (fun _ => true) held fuel 179 cs = some x) : ∃ a n cap zs, cs = [.slice a n cap] ∧ TgS w a n cap zs := by
  have e1 : Tryz.prog.cellsOf 67 = 3 := by kernel_rfl
  rcases Deep.open_slice Tryz.underlying179 h with ⟨hcs, _⟩ | ⟨a, len, cap, m, n, D, Pl, hcs, hb, hl, hm, hmm, hx, hd⟩
  · exact ⟨none, 0, 0, [], hcs, rfl, Nat.zero_le _, fun h => absurd rfl h, Nat.le_refl _⟩
  · simp at hmm
    rw [hmm] at hd
    rw [e1] at hd
    obtain ⟨G, hG⟩ := Deep.choose_lt (α := Tg) (p := fun i g => ∃ cs', w.cells? base (a.add (i * 3)) 3 = some cs' ∧ cs' = [.int .i64 g.1, .int .i64 g.2.1, .int .i64 g.2.2]) (n := len) (fun i hi => by
      obtain ⟨cs', h1, h2⟩ := hd i (by omega)
      obtain ⟨s, e⟩ := target_cells h2
      exact ⟨s, cs', h1, e⟩)
    have hgi : ∀ i, i < len → ((List.range len).map G).getD i zT = G i := fun i hi => by simp [List.getD_eq_getElem?_getD, hi]
    refine ⟨some a, len, cap, (List.range len).map G, hcs, by simp, by omega, ?_, hl⟩
    intro hn
    obtain ⟨b, off, spot⟩ := a
    have hspot : spot = none := by
      obtain ⟨cs', h1, h2⟩ := hG 0 (by omega)
      have := (World.cells?_some h1).2.2 0 (by omega)
      rw [h2] at this
      simpa [Addr.add] using World.cell?_spot this
    subst hspot
    refine ⟨b, off, rfl, fun i hi => ?_⟩
    obtain ⟨cs', h1, h2⟩ := hG i hi
    have hc := (World.cells?_some h1).2.2
    rw [h2] at hc
    rw [hgi i hi]
    simp only [addM] at hc
    exact ⟨hc 0 (by omega), hc 1 (by omega), hc 2 (by omega)⟩

set_option maxRecDepth 100000 in
theorem tss_of_trod {H : Type} {enc : TypeId × Value → H} {w : World} {base : Nat} {held : Bool} {fuel : Nat} {cs : List Value} {x : DataW H × List MemPlace}
    (h : DataW.trod enc Tryz.prog w base (fun _ => true) held fuel 25 cs = some x) : ∃ a cap ts, cs = [.slice a (List.length ts) cap] ∧ TsS w a ts.length cap ts := by
  have e1 : Tryz.prog.cellsOf 179 = 1 := by kernel_rfl
  rcases Deep.open_slice Tryz.underlying25 h with ⟨hcs, _⟩ | ⟨a, len, cap, m, n, D, Pl, hcs, hb, hl, hm, hmm, hx, hd⟩
  · exact ⟨none, 0, [], hcs, rfl, Nat.zero_le _, fun h => absurd rfl h, fun i hi => absurd hi (by simp), Nat.le_refl _⟩
  · simp at hmm
    rw [hmm] at hd
    rw [e1] at hd
    obtain ⟨G, hG⟩ := Deep.choose_lt (α := TB) (p := fun i g => (∃ cs', w.cells? base (a.add (i * 1)) 1 = some cs' ∧ cs' = [svT g]) ∧ TgS w g.2.1 g.1.length g.2.2 g.1) (n := len) (fun i hi => by
      obtain ⟨cs', h1, h2⟩ := hd i (by omega)
      obtain ⟨a', n', c', zs', e, hI⟩ := tg_of_trod h2
      have hn' := hI.1
      subst hn'
      exact ⟨(zs', a', c'), ⟨cs', h1, e⟩, hI⟩)
    have hgi : ∀ i, i < len → ((List.range len).map G).getD i zTB = G i := fun i hi => by simp [List.getD_eq_getElem?_getD, hi]
    have hll : ((List.range len).map G).length = len := by simp
    refine ⟨some a, cap, (List.range len).map G, by rw [hll]; exact hcs, ?_⟩
    rw [hll]
    refine ⟨by simp, by omega, ?_, fun i hi => by rw [hgi i hi]; exact (hG i hi).2, hl⟩
    intro hn
    obtain ⟨b, off, spot⟩ := a
    have hspot : spot = none := by
      obtain ⟨⟨cs', h1, h2⟩, _⟩ := hG 0 (by omega)
      have := (World.cells?_some h1).2.2 0 (by omega)
      rw [h2] at this
      simpa [Addr.add] using World.cell?_spot this
    subst hspot
    refine ⟨b, off, rfl, fun i hi => ?_⟩
    obtain ⟨⟨cs', h1, h2⟩, _⟩ := hG i hi
    have hc := (World.cells?_some h1).2.2
    rw [h2] at hc
    rw [hgi i hi]
    simp only [addM] at hc
    simpa using hc 0 (by omega)

set_option maxRecDepth 100000 in
theorem place_cells {H : Type} {enc : TypeId × Value → H} {w : World} {base : Nat} {held : Bool} {fuel : Nat} {cs : List Value} {x : DataW H × List MemPlace}
    (h : DataW.trod enc Tryz.prog w base (fun _ => true) held fuel 177 cs = some x) : ∃ g : PB, cs = [.int .i64 g.1.text, svP g, .int .i64 g.1.data, .int .i64 g.1.size] ∧ IS w g.2.1 g.1.banks.length g.2.2 g.1.banks := by
  obtain ⟨xs, n, _, _, hl, hlen, hf⟩ := DataW.trod_struct Tryz.underlying177 h
  have e6 : Tryz.prog.cellsOf 177 = 4 := by kernel_rfl
  rw [e6] at hl
  match xs, hlen, cs, hl with
  | [y0, y1, y2, y3], _, [c0, c1, c2, c3], _ =>
  have k0 := hf 0 _ rfl
  have k1 := hf 1 _ rfl
  have k2 := hf 2 _ rfl
  have k3 := hf 3 _ rfl
  have e3 : Tryz.prog.cellsOf 3 = 1 := by kernel_rfl
  have e4 : Tryz.prog.cellsOf 24 = 1 := by kernel_rfl
  simp [e3, e4] at k0 k1 k2 k3
  obtain ⟨a0, h0, _, wa⟩ := DataW.trod_int Tryz.underlying3 k0
  obtain ⟨ta, tn, tc, tz, h1, w1⟩ := ints_of_trod k1
  obtain ⟨a2, h2, _, wc⟩ := DataW.trod_int Tryz.underlying3 k2
  obtain ⟨a3, h3, _, wd⟩ := DataW.trod_int Tryz.underlying3 k3
  simp at h0 h1 h2 h3
  subst h0 h1 h2 h3
  have hn' := w1.1
  subst hn'
  exact ⟨(⟨a0, tz, a2, a3⟩, ta, tc), rfl, w1⟩

set_option maxRecDepth 100000 in
theorem pls_of_trod {H : Type} {enc : TypeId × Value → H} {w : World} {base : Nat} {held : Bool} {fuel : Nat} {cs : List Value} {x : DataW H × List MemPlace}
    (h : DataW.trod enc Tryz.prog w base (fun _ => true) held fuel 23 cs = some x) : ∃ a cap xs, cs = [.slice a (List.length xs) cap] ∧ PlS w a xs.length cap xs := by
  have e1 : Tryz.prog.cellsOf 177 = 4 := by kernel_rfl
  rcases Deep.open_slice Tryz.underlying23 h with ⟨hcs, _⟩ | ⟨a, len, cap, m, n, D, Pl', hcs, hb, hl, hm, hmm, hx, hd⟩
  · exact ⟨none, 0, [], hcs, rfl, Nat.zero_le _, fun h => absurd rfl h, fun i hi => absurd hi (by simp), Nat.le_refl _⟩
  · simp at hmm
    rw [hmm] at hd
    rw [e1] at hd
    haveI : Inhabited PB := ⟨zPB⟩
    obtain ⟨G, hG⟩ := Deep.choose_lt (α := PB) (p := fun i g => (∃ cs', w.cells? base (a.add (i * 4)) 4 = some cs' ∧ cs' = [.int .i64 g.1.text, svP g, .int .i64 g.1.data, .int .i64 g.1.size]) ∧ IS w g.2.1 g.1.banks.length g.2.2 g.1.banks) (n := len) (fun i hi => by
      obtain ⟨cs', h1, h2⟩ := hd i (by omega)
      obtain ⟨s, e, hI⟩ := place_cells h2
      exact ⟨s, ⟨cs', h1, e⟩, hI⟩)
    have hgi : ∀ i, i < len → ((List.range len).map G).getD i zPB = G i := fun i hi => by simp [List.getD_eq_getElem?_getD, hi]
    have hll : ((List.range len).map G).length = len := by simp
    refine ⟨some a, cap, (List.range len).map G, by rw [hll]; exact hcs, ?_⟩
    rw [hll]
    refine ⟨by simp, by omega, ?_, fun i hi => by rw [hgi i hi]; exact (hG i hi).2, hl⟩
    intro hn
    obtain ⟨b, off, spot⟩ := a
    have hspot : spot = none := by
      obtain ⟨⟨cs', h1, h2⟩, _⟩ := hG 0 (by omega)
      have := (World.cells?_some h1).2.2 0 (by omega)
      rw [h2] at this
      simpa [Addr.add] using World.cell?_spot this
    subst hspot
    refine ⟨b, off, rfl, fun i hi => ?_⟩
    obtain ⟨⟨cs', h1, h2⟩, _⟩ := hG i hi
    have hc := (World.cells?_some h1).2.2
    rw [h2] at hc
    rw [hgi i hi]
    simp only [addM] at hc
    exact ⟨hc 0 (by omega), hc 1 (by omega), hc 2 (by omega), hc 3 (by omega)⟩

theorem array6l {α : Type} {cs : Array α} (h : cs.size = 6) : ∃ c0 c1 c2 c3 c4 c5, cs = #[c0, c1, c2, c3, c4, c5] := by
  obtain ⟨l⟩ := cs
  match l, h with
  | [c0, c1, c2, c3, c4, c5], _ => exact ⟨c0, c1, c2, c3, c4, c5, rfl⟩

set_option maxRecDepth 100000 in
theorem open_layout {H : Type} {enc : TypeId × Value → H} {w : World} {base b0 : Nat} {held : Bool} {r : Reach} {v : Value} {d : DataW H} {p : List MemPlace}
    (hv : Value.okWide Tryz.prog w r b0 27 v) (h : DataW.Trod enc Tryz.prog w base (fun _ => true) held 27 v d p) :
    ∃ (L : Lay) (a0 : Option Addr) (c0 : Nat) (xs : List PB) (a2 : Option Addr) (c2 : Nat) (a5 : Option Addr) (c5 : Nat) (ts : List TB),
      v = .agg #[.slice a0 xs.length c0, .int .i64 L.stack, .slice a2 L.slots.length c2, .int .i64 L.flash, .int .i64 L.ram, .slice a5 ts.length c5] ∧ LyT w L a0 c0 xs a2 c2 a5 c5 ts := by
  obtain ⟨cs, rfl, hsz⟩ := okWide_struct Tryz.underlying27 hv
  obtain ⟨c0, c1, c2, c3, c4, c5, rfl⟩ := array6l (hsz.trans (by kernel_rfl))
  obtain ⟨fuel, hf⟩ := h
  obtain ⟨xs, n, _, _, hl, hlen, hf⟩ := DataW.trod_struct Tryz.underlying27 hf
  match xs, hlen with
  | [y0, y1, y2, y3, y4, y5], _ =>
  have k0 := hf 0 _ rfl
  have k1 := hf 1 _ rfl
  have k2 := hf 2 _ rfl
  have k3 := hf 3 _ rfl
  have k4 := hf 4 _ rfl
  have k5 := hf 5 _ rfl
  have e1 : Tryz.prog.cellsOf 3 = 1 := by kernel_rfl
  have e2 : Tryz.prog.cellsOf 23 = 1 := by kernel_rfl
  have e3 : Tryz.prog.cellsOf 24 = 1 := by kernel_rfl
  have e4 : Tryz.prog.cellsOf 25 = 1 := by kernel_rfl
  simp [Value.cells, e1, e2, e3, e4] at k0 k1 k2 k3 k4 k5
  obtain ⟨a0, d0, xs, h0, w0⟩ := pls_of_trod k0
  obtain ⟨st, h1, _, w1⟩ := DataW.trod_int Tryz.underlying3 k1
  obtain ⟨a2, n2, d2, sl, h2, w2⟩ := ints_of_trod k2
  obtain ⟨fl, h3, _, w3⟩ := DataW.trod_int Tryz.underlying3 k3
  obtain ⟨rm, h4, _, w4⟩ := DataW.trod_int Tryz.underlying3 k4
  obtain ⟨a5, d5, ts, h5, w5⟩ := tss_of_trod k5
  simp at h0 h1 h2 h3 h4 h5
  subst h0 h1 h2 h3 h4 h5
  have hn' := w2.1
  subst hn'
  exact ⟨⟨xs.map (fun x => x.1), st, sl, fl, rm, ts.map (fun x => x.1)⟩, a0, d0, xs, a2, d2, a5, d5, ts, rfl, w0, rfl, w2, w5, rfl, wf_i64 w1, wf_i64 w3, wf_i64 w4⟩
end Go.Proofs.YtngdgogjlpjjpaeGreat

namespace Go.Proofs.YtngdgogjlpjjpaeGreat
open Go.ChangeShapes Go.WideShapes Go.ChangeAt Go.RowKit
set_option linter.unusedVariables false

set_option maxRecDepth 100000 in
theorem liftedFnExactFits (os : Os) (started : os.Started) (H : Type) (enc : TypeId × Value → H) :
    ReturnsInHanded {} Tryz.checked os 3 .any (Rows.fnExactFitsSpec.pre6 enc Tryz.prog Tryz.f3 Rows.fnExactFitsRow.domain false) (Rows.fnExactFitsSpec.post enc Tryz.prog Tryz.f3 false true false false) := by
  refine returnsInHanded_of_change (C := Tryz.checked) own started (by kernel_rfl) Tryz.func3
    (ChangeSpec.witness6 (enc := enc) (C := Tryz.checked) false ⟨#[], #[.slice none 0 0, .agg #[.slice none 0 0, .int .i64 0, .slice none 0 0, .int .i64 0, .int .i64 0, .slice none 0 0]], []⟩ 8 (by kernel_rfl) (by kernel_rfl) (by kernel_rfl) (by kernel_rfl)) ?_
  intro W base args ds gs before hval0 hW hcnd _
  have hval : ∀ (j : Nat) t v, Tryz.f3.params[j]? = some t → args[j]? = some v → Value.okWide Tryz.prog W .any base t v := hval0
  have hW' := hW
  obtain ⟨p, q, hA0, hV, rfl, hfz, hnd⟩ := hW
  have hA : DataW.TrodAll enc Tryz.prog W 0 (fun _ => true) true Tryz.f3.params.toList args.toList ds p := hA0
  rw [Tryz.params3] at hA hval
  obtain ⟨v0, vs0, d0, ds0, p0, q0, hargs, rfl, rfl, h0, r0⟩ := trodAll_cons hA
  obtain ⟨v1, vs1, d1, ds1, p1, q1, rfl, rfl, rfl, h1, r1⟩ := trodAll_cons r0
  obtain ⟨rfl, rfl, rfl⟩ := trodAll_nil r1
  obtain rfl : args = #[v0, v1] := by cases args; simp_all
  obtain ⟨rfl, rfl⟩ := trodVars_none hV
  have k0 := h0
  have lt0 : ∀ x ∈ p0, x.block < W.heap.size := by obtain ⟨m, hm⟩ := k0; exact DataW.trod_lt m _ _ _ hm
  obtain ⟨ma0, mn0, mc0, ms0, rfl, mh0⟩ := open_modules (hval 0 22 v0 rfl rfl) h0
  have k1 := h1
  have lt1 : ∀ x ∈ p1, x.block < W.heap.size := by obtain ⟨m, hm⟩ := k1; exact DataW.trod_lt m _ _ _ hm
  obtain ⟨yL, ya0, yc0, yxs, ya2, yc2, ya5, yc5, yts, rfl, yh⟩ := open_layout (hval 1 27 v1 rfl rfl) h1
  clear hA0 hval0
  refine (exactFits_walk ma0 mn0 mc0 ms0 yL ya0 yc0 yxs ya2 yc2 ya5 yc5 yts W mh0 yh).mono fun e W' ⟨he, bel⟩ => ?_
  subst he
  exact ⟨_, rfl, _, _, _, [], _, [], hW', trodAll_mk1 (shut_bool Tryz.underlying4 _), (trodAll_cons_mk (Below.trod laidOut (by kernel_rfl) (of_decide_eq_true (by kernel_rfl)) k0 bel lt0) (trodAll_cons_mk (Below.trod laidOut (by kernel_rfl) (of_decide_eq_true (by kernel_rfl)) k1 bel lt1) trodAll_mk0)), rfl, bel.frame _, fun h => by cases h⟩

theorem FnExactFits_proved : Rows.FnExactFitsSaid :=
  OpenClaim.holds_of_wide 3 Tryz.f3 rfl rfl rfl rfl rfl rfl rfl ⟨rfl, rfl, rfl, rfl, rfl⟩ rfl rfl rfl rfl rfl (by kernel_rfl) Tryz.func3 (by kernel_rfl)
    (of_decide_eq_true (by kernel_rfl)) (by unfold Func.isWrapper; first | (rw [if_pos (by decide +kernel)]; kernel_rfl) | (rw [if_neg (by decide +kernel)]; exact ⟨rfl, rfl⟩))
    (fun os started H enc _ => liftedFnExactFits os started H enc)
#print axioms FnExactFits_proved
end Go.Proofs.YtngdgogjlpjjpaeGreat
