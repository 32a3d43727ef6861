import Derived.Test.YthnelonbpbhhbabCv6
namespace Go.Proofs.Ythnelonbpbhhbab
open Go.RowKit
set_option linter.unusedVariables false

def cvOk (f s : Int) : Bool := grn f && grn s && decide (s ≤ 262144 - f)
def cvAll (f s : Int) : List Rg := cvList (f + s) (s / 32).toNat f

set_option maxRecDepth 100000 in
set_option maxHeartbeats 2000000 in
theorem iCover_good (f s : Int) (w : World) (hf : 0 ≤ f) (hf32 : f % 32 = 0) (hs : 0 ≤ s) (hs32 : s % 32 = 0) (hfs : s ≤ 262144 - f) :
    Calls Try.prog 11 #[.int .i64 f, .int .i64 s] w (CvPost w true (cvAll f s)) := by
  obtain ⟨i0, hi, hz0, hz1, hz2⟩ := info_parts infoR
  have G1 := hide (isGrained_any f)
  have G2 := hide (isGrained_any s)
  have e1 : grn f = true := by unfold grn; simp; omega
  have e2 : grn s = true := by unfold grn; simp; omega
  rw [e1] at G1
  rw [e2] at G2
  clear e1 e2
  obtain ⟨L, hL⟩ : ∃ L, L = cvAll f s := ⟨_, rfl⟩
  rw [← hL]
  unfold cvAll at hL
  have HL := hide hL
  clear hL
  go_enter Try.func11, Try.ntmps11
  go_wp2_with fail
  refine (G1.out w).mono ?_
  rintro e w1 ⟨rfl, rfl⟩
  go_wp2_with fail
  refine (G2.out w).mono ?_
  rintro e w1 ⟨rfl, rfl⟩
  go_wp2_with fail
  go_loopw [6, 8] (fun r x wr => ∃ (A : Option Addr) (m cap : Nat) (rs : List Rg) (n : Nat) (a : Int), r = .slice A m cap ∧ x = .int .i64 a ∧ f ≤ a ∧ a ≤ f + s ∧ a % 32 = 0 ∧ f + s - a ≤ 32 * (n : Int) ∧ m + n ≤ 8192 ∧ OR wr w.heap.size (.slice A m cap) rs ∧ L = rs ++ cvList (f + s) n a ∧ Below w.heap.size w wr) (fun _ x _ => (f + s - intOf x).toNat)
  case atStart => exact ⟨none, 0, 0, [], (s / 32).toNat, f, rfl, rfl, by omega, by omega, hf32, by omega, by omega, or_nil _ _, by rw [HL.out]; rfl, Below.refl _ _⟩
  case round =>
    obtain ⟨A, m, cap, rs, n, a, rfl, rfl, ha, ha2, ha32, hn, hmn, hO, hLL, hB⟩ := hrel
    have hlen := (or_rs hO).1
    by_cases hlt : a < f + s
    · obtain ⟨b, l, q, hF, hl, hl2, hq, hc1, hc2, hc3, hb, _⟩ := chosen a (f + s) (by omega) hlt (by omega) ha32 (by omega)
      obtain ⟨n, rfl⟩ : ∃ n', n = n' + 1 := ⟨n - 1, by omega⟩
      rw [cvList_step (f + s) n a b l q hlt hF] at hLL
      have hbw : 0 ≤ b ∧ b ≤ 262144 := by
        have := base_ok a l _ hl hl2 rfl (by omega) (by omega)
        have := pow_pos l.toNat
        rw [hb]
        unfold baseOf
        omega
      clear hb
      have HW := hide (widest_any a (f + s) wr (by omega) hlt (by omega) b l q hF)
      have HLL := hide hLL
      have HO := hide hO
      have HB := hide hB
      have HC := hide (addressCount_any b l q false false false)
      have HLEN0 := hide hlen
      have hsz := hB.size
      obtain ⟨c, hcc⟩ : ∃ c, c = cnt l q := ⟨_, rfl⟩
      rw [← hcc] at hc1 hc2 hc3 HC HLL
      have HCC := hide hcc
      have HWF := hide (show wfi b ∧ wfi l ∧ wfi (255 - (q : Int)) from by unfold wfi; omega)
      have HQ := hide hq
      clear hLL hO hB hF hlen hcc
      go_wp2_with fail
      refine HW.out.mono ?_
      rintro e w2 ⟨rfl, hb2⟩
      have HB2 := hide (HB.out.trans (hb2.mono hsz))
      obtain ⟨o, ho⟩ : ∃ o, o = 255 - (q : Int) := ⟨_, rfl⟩
      rw [← ho] at HC HLL HWF ⊢
      have hO2 := turn_or (S := fun _ => False) (turn_below hb2) HO.out (fun _ _ => id)
      have hO3 := hO2.1.alloc (.cells #[.int .i64 b, .int .i64 l, .int .i64 o, .bool false, .bool false, .bool false] 30)
      have HOWN := hide (hO3.alloc (.cells #[.int .i64 b, .int .i64 l, .int .i64 o, .bool false, .bool false, .bool false] 30))
      rw [HLEN0.out] at HOWN
      have HLEN := hide (show (cells6 (b, l, o, false, false, false)).length = 1 * 6 from rfl)
      have HNEWS := hide (news6 (w2.alloc (.cells #[.int .i64 b, .int .i64 l, .int .i64 o, .bool false, .bool false, .bool false] 30)) (b, l, o, false, false, false))
      have HONE := hide (one6 (b, l, o, false, false, false))
      have HRS := hide hO2.2
      have HLT := hide hO2.1.lt
      have KB := hide ((Blk.new w2 #[.int .i64 b, .int .i64 l, .int .i64 o, .bool false, .bool false, .bool false] 30).alloc (.cells #[.int .i64 b, .int .i64 l, .int .i64 o, .bool false, .bool false, .bool false] 30))
      have hsz2 := hb2.size
      have HB3 := hide ((HB2.out.alloc (by omega) (.cells #[.int .i64 b, .int .i64 l, .int .i64 o, .bool false, .bool false, .bool false] 30)).alloc (by simp; omega) (.cells #[.int .i64 b, .int .i64 l, .int .i64 o, .bool false, .bool false, .bool false] 30))
      simp only [World.size_alloc] at HNEWS
      clear hO2 hO3 hb2 ho
      go_wp2_with (at_builtin; refine wpList_append_own _ rfl _ _ 25 rfl w.heap.size 30 i0 (.agg #[.int .i64 0, .int .i64 0, .int .i64 0, .bool false, .bool false, .bool false]) 6 32 Try.underlying25 hi hz0 hz1 hz2 rfl (by decide) (.slice A m cap) m (flat rs) rfl HOWN.out ⟨w2.heap.size + 1, 0, none⟩ 1 1 (cells6 (b, l, o, false, false, false)) rfl HLEN.out HNEWS.out HONE.out (by unfold maxLen; omega) (by omega) (by simp; omega) ?_; intro v' w3 hown3 hgr3 _; obtain ⟨A', cap', he⟩ := or_shape hown3; subst he; have hO3 := or_more (W := w2) (v := .slice A m cap) (g := (b, l, o, false, false, false)) HRS.out HWF.out (by rw [HLEN0.out]; exact hown3); have t3 := grown_turn hgr3; have hfar : ∀ j, (Value.slice A m cap).ownBlock = some j → w.heap.size ≤ j := fun j hj => (HLT.out j hj).1; have hnot : ∀ j, (Value.slice A m cap).ownBlock = some j → j < w2.heap.size := fun j hj => (HLT.out j hj).2; have hK3 := turn_blk t3 KB.out (fun e => by have := hnot _ e; omega); have hsz3 := t3.size; simp only [World.size_alloc] at hsz3; have HB4 := hide (below_turn HB3.out t3 hfar (by simp; omega)); have HO3 := hide hO3; have HK3 := hide hK3; obtain ⟨q1, q2, q3, q4, q5, q6, q7⟩ := hK3.six'; clear hO3 t3 hfar hnot hown3 hgr3 hK3)
      refine (HC.out w3 HQ.out hl hl2).mono ?_
      rintro e w4 ⟨rfl, hb4⟩
      have HB5 := hide (HB4.out.trans (hb4.mono (by omega)))
      have HO5 := hide (turn_or (S := fun _ => False) (turn_below hb4) HO3.out (fun _ _ => id))
      clear hb4
      go_wp2_with fail
      go_roundw
      case rel => exact ⟨A', m + 1, cap', rs ++ [(b, l, o, false, false, false)], n, a + c, rfl, by go_num, by omega, by omega, by omega, by omega, by omega, HO5.out, by rw [HLL.out]; simp, HB5.out⟩
      case measure => simp [intOf]; omega
    · have hLe : L = rs := by rw [hLL, cvList_end _ _ _ hlt, List.append_nil]
      subst hLe
      have HO := hide hO
      have HB := hide hB
      clear hLL hO hB
      go_wp2
      go_ret2
      exact ⟨A, m, cap, rfl, HO.out, HB.out⟩
end Go.Proofs.Ythnelonbpbhhbab
