import Derived.Test.YthnelonbpbhhbabSt3
import Derived.Test.YthnelonbpbhhbabCv12
import Derived.Test.YthnelonbpbhhbabAl4
import Derived.Deep.RegionHeld3
namespace Go.Proofs.Ythnelonbpbhhbab
open Go.RowKit
set_option linter.unusedVariables false
set_option linter.unusedSimpArgs false
set_option maxRecDepth 100000

theorem drop_cons {L : List Rg} {i : Nat} (h : i < L.length) : L.drop i = L.getD i z6 :: L.drop (i + 1) := by
  rw [List.drop_eq_getElem_cons h, List.getD_eq_getElem?_getD, List.getElem?_eq_getElem h]
  rfl
theorem cvL_chain (f s : Int) (h : cvOk f s = true) : Chain (cvL f s) f (f + s) ∧ 0 ≤ f ∧ 0 ≤ s ∧ s ≤ 262144 - f := by
  have h' := h
  unfold cvOk grn at h'
  simp at h'
  refine ⟨?_, by omega, by omega, by omega⟩
  unfold cvL
  rw [h, if_pos rfl]
  unfold cvAll
  exact cvList_chain (f + s) (by omega) (by omega) _ f (by omega) (by omega) (by omega) (by omega)
theorem roww_rs {w : World} {g n cap : Nat} {rs : List Rg} (h : RowW w g rs) (hl : rs.length = n) (hm : n ≤ maxLen) (hw : ∀ g ∈ rs, wfi g.1 ∧ wfi g.2.1 ∧ wfi g.2.2.1) (hc : n ≤ cap) : RS w (some ⟨g, 0, none⟩) n cap rs := by
  subst hl
  exact ⟨rfl, hm, hw, fun _ => ⟨g, 0, rfl, fun i hi => by rw [Nat.zero_add]; exact h.2 i hi⟩, hc⟩

set_option maxHeartbeats 4000000 in
theorem fnCover_walk (a : Option Addr) (n c : Nat) (zs : List Int) (w : World) (h : BS w a n c zs) :
    Calls Try.prog 3 #[.slice a n c] w fun e w' => e = .returned (.bool true) ∧ Below w.heap.size w w' := by
  have hm := h.2.1
  unfold maxLen at hm
  by_cases hn : (1048576 : Int) < (n : Int)
  · go_enter Try.func3, Try.ntmps3
    go_wp2
    go_ret
    exact ⟨rfl, Below.refl _ _⟩
  · go_enter Try.func3, Try.ntmps3
    go_wp2_with fail
    refine (drawCover_any a n c zs _ h).mono ?_
    rintro e w1 ⟨f, s, rfl, ⟨f0, f1, s0, s1⟩, hB1⟩
    clear h hm
    have HC := hide (fun w => sCover_any f s w (by omega) (by omega))
    have HI := hide (fun w => iCover_any f s w (by omega))
    go_wp2_with fail
    refine (HC.out _).mono ?_
    rintro e w2 ⟨x1, m1, c1, rfl, o1, b2⟩
    go_wp2_with fail
    refine (HI.out _).mono ?_
    rintro e w3 ⟨x2, m2, c2, rfl, o2, b3⟩
    have L1 := hide (or_lt o1)
    have l1 := (or_rs o1).1
    have l2 := (or_rs o2).1
    obtain rfl : m1 = m2 := by omega
    have hz2 := b2.size
    have hz3 := b3.size
    have hB3 := hB1.trans ((b2.trans (b3.mono b2.size)).mono hB1.size)
    have o1 := turn_or (S := fun _ => False) (turn_below b3) o1 (fun _ _ h => h)
    have hmx := (or_rs o2).2.1
    have hcap2 := (or_rs o2).2.2.2.2
    have hwf := (or_rs o2).2.2.1
    unfold maxLen at hmx
    clear b2 b3 HC HI
    have hne : ∀ b : Bool, (b != b) = false := by intro b; simp
    have hnm : ((m1 : Int) != (m1 : Int)) = false := by simp
    cases hk : cvOk f s
    · have hL : cvL f s = [] := by unfold cvL; rw [hk]; rfl
      rw [hL] at l1
      simp at l1
      subst l1
      have HB := hide hB3
      clear o1 o2 hL L1 hwf hcap2 hB3
      go_wp2
      go_loopw [9, 10] (fun x i wr => x = .int .i64 f ∧ i = .int .i64 0 ∧ Below w.heap.size w wr) (fun _ _ _ => 0)
      case atStart => exact ⟨rfl, rfl, HB.out⟩
      case round =>
        obtain ⟨rfl, rfl, hB⟩ := hrel
        go_wp2
        go_ret
        exact ⟨rfl, hB⟩
    · obtain ⟨hch, f2, s2, s3⟩ := cvL_chain f s hk
      clear hk
      generalize cvL f s = L at *
      by_cases hm0 : m1 = 0
      · subst hm0
        have hL : L = [] := List.eq_nil_of_length_eq_zero l1
        subst hL
        have hs0 : s = 0 := by have : f = f + s := hch; omega
        subst hs0
        have HB := hide hB3
        clear o1 o2 L1 hwf hcap2 hB3 hch
        have hff : (f != f) = false := by simp
        go_wp2
        go_loopw [9, 10] (fun x i wr => x = .int .i64 f ∧ i = .int .i64 0 ∧ Below w.heap.size w wr) (fun _ _ _ => 0)
        case atStart => exact ⟨rfl, rfl, HB.out⟩
        case round =>
          obtain ⟨rfl, rfl, hB⟩ := hrel
          go_wp2
          go_ret
          exact ⟨rfl, hB⟩
      · obtain ⟨g2, rfl, hg2⟩ : ∃ g, x2 = some ⟨g, 0, none⟩ ∧ w2.heap.size ≤ g := by
          obtain ⟨hl, ⟨h0', _⟩ | ⟨g, cap', cur, hv, hg, _⟩⟩ := o2.1
          · simp at h0'; exact absurd h0'.2.1 hm0
          · simp at hv; exact ⟨g, hv.1, hg⟩
        have hR0 := or_roww o2 hm0
        have hs32 : 32 ≤ s := by
          cases L with
          | nil => exact absurd l1.symm hm0
          | cons g r =>
            obtain ⟨c', hc', hr'⟩ := hch
            have := chain_le _ _ _ hr'
            have := hc'.pos
            omega
        have HCH := hide hch
        have HW := hide hwf
        have HR0 := hide hR0
        have HO1 := hide o1
        have HB3 := hide hB3
        clear o2 hR0 hwf hch o1 hB3
        go_wp2
        go_loopw [9, 10] (fun x i wr => ∃ (k : Nat) (t : Int), k ≤ m1 ∧ i = .int .i64 k ∧ x = .int .i64 t ∧ f ≤ t ∧ t ≤ f + s ∧ t % 32 = 0 ∧ Chain (L.drop k) t (f + s) ∧ RowW wr g2 (rdL L k) ∧ OR wr w1.heap.size (.slice x1 m1 c1) L ∧ Below w.heap.size w wr) (fun _ i _ => m1 - (intOf i).toNat)
        case atStart =>
          refine ⟨0, f, Nat.zero_le _, rfl, rfl, by omega, by omega, ?_, HCH.out, by rw [rdL_zero]; exact HR0.out, HO1.out, HB3.out⟩
          have := HCH.out
          cases L with
          | nil => exact absurd l1.symm hm0
          | cons g r =>
            obtain ⟨c', hc', hr'⟩ := this
            exact hc'.a32
        case round =>
          obtain ⟨k, t, hk, rfl, rfl, ht0, ht1, ht32, hC, hR, hO, hB⟩ := hrel
          obtain ⟨w9, hw9⟩ : ∃ w9, w9 = wr := ⟨_, rfl⟩
          subst hw9
          by_cases hlt : k < m1
          · have hlt' : (k : Int) < (m1 : Int) := by omega
            rw [drop_cons (by omega)] at hC
            obtain ⟨c', hcv, hC'⟩ := hC
            have hle := chain_le _ _ _ hC'
            have hS1 := or_rs hO
            obtain ⟨b1, off1, rfl⟩ := hS1.some hm0
            have hat' := hS1.at k hlt
            have hat := hR.2 k (by rw [rdL_len]; omega)
            rw [rdL_getD L k k (by omega), if_neg (by omega)] at hat
            have hwk := HW.out _ (mem_getD (show k < L.length by omega))
            have hbk : b1 < w2.heap.size := by have := L1.out b1; simp [Value.ownBlock] at this; exact this
            have HSET := hide (rdL_set L k (by omega))
            have HGD : Hid ((rdL L k).getD k z6 = L.getD k z6) := by show _ = _; rw [rdL_getD L k k (by omega), if_neg (by omega)]
            have HCC := hide hC'
            clear hC'
            generalize L.getD k z6 = g at *
            obtain ⟨b, l, o, r1, r2, r3⟩ := g
            have hbits := hcv.bits
            simp at hbits
            obtain ⟨rfl, rfl, rfl⟩ := hbits
            have hrok : rok b l o = true := hcv.ok
            have hwb : (Lit.int .i64 b).wf = true := by
              have := hwk.1
              simp only [wfi] at this
              simp [Lit.wf, IntKind.min, IntKind.max, IntKind.bits, IntKind.signed]
              omega
            have HRO := hide (fun w => iRegionOk_any b l o false false false w hwb)
            rw [hrok] at HRO
            have HST := hide (fun w => stretch_any b l o t c' false false false w hrok hcv.pos hcv.c32 hcv.a32 (by omega) hcv.has)
            have c32 := hcv.pos
            have cmod := hide hcv.c32
            obtain ⟨q1, q2, q3, q4, q5, q6⟩ := hat
            obtain ⟨p1, p2, p3, p4, p5, p6⟩ := hat'
            simp only at q1 q2 q3 q4 q5 q6 p1 p2 p3 p4 p5 p6
            have e1 : (b != b) = false := by simp
            have e2 : (l != l) = false := by simp
            have e3 : (o != o) = false := by simp
            have ett : (t != t) = false := by simp
            clear hcv hwk hwb hrok
            go_wp2
            go_region_held3 (fun w' => w'.cell? ⟨g2, k * 6, none⟩ = some (.int .i64 b) ∧ w'.cell? ⟨g2, k * 6 + 1, none⟩ = some (.int .i64 l) ∧ w'.cell? ⟨g2, k * 6 + 2, none⟩ = some (.int .i64 o) ∧ w'.cell? ⟨g2, k * 6 + 3, none⟩ = some (.bool false) ∧ w'.cell? ⟨g2, k * 6 + 4, none⟩ = some (.bool false) ∧ w'.cell? ⟨g2, k * 6 + 5, none⟩ = some (.bool false) ∧
                w'.cell? ⟨b1, off1 + k * 6, none⟩ = some (.int .i64 b) ∧ w'.cell? ⟨b1, off1 + k * 6 + 1, none⟩ = some (.int .i64 l) ∧ w'.cell? ⟨b1, off1 + k * 6 + 2, none⟩ = some (.int .i64 o) ∧ w'.cell? ⟨b1, off1 + k * 6 + 3, none⟩ = some (.bool false) ∧ w'.cell? ⟨b1, off1 + k * 6 + 4, none⟩ = some (.bool false) ∧ w'.cell? ⟨b1, off1 + k * 6 + 5, none⟩ = some (.bool false)) (go_keep)
              (first
                | (go_at_call 12; refine (HRO.out _).mono ?_; rintro e wa ⟨rfl, hba⟩; replace hba := undrew hba; obtain ⟨hc1, hf1⟩ := bcell hba; have hlb := World.block_lt_of_cell? _ _ q1; have hlb' := World.block_lt_of_cell? _ _ p1))
            have hRa := hR.below hba
            have hOa := turn_or (S := fun _ => False) (turn_below hba) hO (fun _ _ h => h)
            have hBa := hB.trans (hba.mono hB.size)
            have hata := hRa.2 k (by rw [rdL_len]; omega)
            rw [HGD.out] at hata
            clear hc1 hf1 q1 q2 q3 q4 q5 q6 p1 p2 p3 p4 p5 p6 hba hR hO hB hlb hlb'
            obtain ⟨q1, q2, q3, q4, q5, q6⟩ := hata
            simp only at q1 q2 q3 q4 q5 q6
            go_wp2_with fail
            refine (HST.out _).mono ?_
            rintro e wb ⟨rfl, hbb⟩
            have hRb := hRa.below hbb
            have hOb := turn_or (S := fun _ => False) (turn_below hbb) hOa (fun _ _ h => h)
            have hBb := hBa.trans (hbb.mono hBa.size)
            have hatb := hRb.2 k (by rw [rdL_len]; omega)
            rw [HGD.out] at hatb
            clear q1 q2 q3 q4 q5 q6 hbb hRa hOa hBa
            obtain ⟨q1, q2, q3, q4, q5, q6⟩ := hatb
            simp only at q1 q2 q3 q4 q5 q6
            have hfz := hRb.frozen
            have hRn := roww_read hRb k (by rw [rdL_len]; omega)
            rw [HGD.out, HSET.out] at hRn
            have hOn := turn_or' (turn_set wb g2 (k * 6 + 3) (.bool true)) hOb (fun j hj e => by have := L1.out j hj; omega)
            have hBn := hBb.setCell (p := ⟨g2, k * 6 + 3, none⟩) (by have := hB1.size; dsimp only; omega) (.bool true)
            have HN := hide (And.intro hRn (And.intro hOn hBn))
            clear hRn hOn hBn hRb hOb hBb
            go_wp2
            go_roundw
            case rel => exact ⟨k + 1, t + c', by omega, by go_num, rfl, by omega, by omega, by have := cmod.out; omega, HCC.out, HN.out.1, HN.out.2.1, HN.out.2.2⟩
            case measure => simp [intOf]; omega
          · have hkm : k = L.length := by omega
            subst hkm
            have ht : t = f + s := by
              have := hC
              rw [List.drop_length] at this
              exact this
            subst ht
            have hff : (f + s != f + s) = false := by simp
            have hRS : ∀ W, Below w9.heap.size w9 W → RS W (some ⟨g2, 0, none⟩) m1 c2 (rdL L L.length) := by
              intro W hW
              refine roww_rs (hR.below hW) (by rw [rdL_len]; exact l1) (by unfold maxLen; omega) ?_ hcap2
              intro g hg
              simp [rdL] at hg
              obtain ⟨j, hj, rfl⟩ := hg
              have := HW.out _ (mem_getD hj)
              split <;> exact this
            have HRS := hide hRS
            clear hR hO hC hRS
            by_cases h8 : (8 : Int) < (m1 : Int)
            · have hm0' : ((m1 : Int) == 0) = false := by simp; omega
              go_wp2
              go_ret
              exact ⟨rfl, hB⟩
            · have hm0' : ((m1 : Int) == 0) = false := by simp; omega
              have A : ∀ x y : Int, wfi x → ∀ W, Below w9.heap.size w9 W → Calls Try.prog 14 #[.slice (some ⟨g2, 0, none⟩) m1 c2, .int .i64 x, .int .i64 1, .int .i64 1] W fun e w' => e = .returned (.bool (decide (f ≤ x ∧ x < f + s))) ∧ Below W.heap.size W w' := by
                intro x y hx W hW
                have := iAllowed_any (some ⟨g2, 0, none⟩) m1 c2 (rdL L L.length) x 1 1 W (HRS.out W hW) hx
                rw [← l1, alw_read L f (f + s) x HCH.out (by omega) hx] at this
                rw [← l1]
                exact this
              have B : ∀ W, Below w9.heap.size w9 W → Calls Try.prog 14 #[.slice (some ⟨g2, 0, none⟩) m1 c2, .int .i64 f, .int .i64 1, .int .i64 2] W fun e w' => e = .returned (.bool false) ∧ Below W.heap.size W w' := by
                intro W hW
                have := iAllowed_any (some ⟨g2, 0, none⟩) m1 c2 (rdL L L.length) f 1 2 W (HRS.out W hW) (by unfold wfi; omega)
                rw [← l1, alw_write L f (f + s) f HCH.out (by unfold wfi; omega)] at this
                rw [← l1]
                exact this
              have A1 := A f 0 (by unfold wfi; omega)
              have A2 := A (f + s - 1) 0 (by unfold wfi; omega)
              have A3 := A (f - 1) 0 (by unfold wfi; omega)
              have A4 := A (f + s) 0 (by unfold wfi; omega)
              rw [decide_eq_true (by omega)] at A1 A2
              rw [decide_eq_false (by omega)] at A3 A4
              have HA1 := hide A1
              have HA2 := hide A2
              have HA3 := hide A3
              have HA4 := hide A4
              have HA5 := hide B
              clear A A1 A2 A3 A4 B
              go_wp2_with fail
              refine (HA1.out _ (Below.refl _ _)).mono ?_
              rintro e wa ⟨rfl, ba⟩
              go_wp2_with fail
              refine (HA2.out _ ba).mono ?_
              rintro e wb ⟨rfl, bb⟩
              have ba := ba.trans (bb.mono ba.size)
              clear bb
              go_wp2_with fail
              refine (HA3.out _ ba).mono ?_
              rintro e wc ⟨rfl, bb⟩
              have ba := ba.trans (bb.mono ba.size)
              clear bb
              go_wp2_with fail
              refine (HA4.out _ ba).mono ?_
              rintro e wd ⟨rfl, bb⟩
              have ba := ba.trans (bb.mono ba.size)
              clear bb
              go_wp2_with fail
              refine (HA5.out _ ba).mono ?_
              rintro e we ⟨rfl, bb⟩
              have ba := ba.trans (bb.mono ba.size)
              clear bb
              go_wp2
              go_ret
              exact ⟨rfl, hB.trans (ba.mono hB.size)⟩
end Go.Proofs.Ythnelonbpbhhbab
