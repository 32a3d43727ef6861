import Derived.Test.YtngdgogjlpjjpadP34
namespace Go.Proofs.Ytngdgogjlpjjpad
open Go.RowKit
set_option linter.unusedVariables false
set_option linter.unusedSimpArgs false
set_option maxRecDepth 100000
set_option maxHeartbeats 40000000 in
theorem sParse_good (b n cap : Nat) (zs : List Int) (w : World) (h : BS w (some ⟨b, 0, none⟩) n cap zs) (hn : n ≤ 20000) (hb : b < w.heap.size) (h2 : 2 ≤ n) (x0 : zs.getD 0 0 = 88) (x1 : zs.getD 1 0 = 77) :
    Calls Try.prog 6 #[.slice (some ⟨b, 0, none⟩) n cap] w (PaPost w (prs2 zs)) := by
  have hl := h.1
  have hby : Byt zs := h.2.2.1
  have HBY := hide hby
  obtain ⟨W0, hW0⟩ : ∃ W0, W0 = (w.alloc (.cells #[.string ⟨#[]⟩, .slice none 0 0, .slice none 0 0, .slice none 0 0, .int .i64 0, .slice none 0 0, .slice none 0 0, .slice none 0 0] 29)).alloc (.cells #[.string ⟨#[]⟩, .slice none 0 0, .slice none 0 0, .slice none 0 0, .int .i64 0, .slice none 0 0, .slice none 0 0, .slice none 0 0] 29) := ⟨_, rfl⟩
  have F0 : Below w.heap.size w W0 ∧ Blk W0 w.heap.size z8 29 ∧ Blk W0 (w.heap.size + 1) z8 29 := by
    subst hW0
    have b1 : Below w.heap.size w (w.alloc (.cells #[.string ⟨#[]⟩, .slice none 0 0, .slice none 0 0, .slice none 0 0, .int .i64 0, .slice none 0 0, .slice none 0 0, .slice none 0 0] 29)) := (Below.refl _ _).alloc (Nat.le_refl _) _
    have k1 := Blk.new w #[.string ⟨#[]⟩, .slice none 0 0, .slice none 0 0, .slice none 0 0, .int .i64 0, .slice none 0 0, .slice none 0 0, .slice none 0 0] 29
    have hs1 : (w.alloc (.cells #[.string ⟨#[]⟩, .slice none 0 0, .slice none 0 0, .slice none 0 0, .int .i64 0, .slice none 0 0, .slice none 0 0, .slice none 0 0] 29)).heap.size = w.heap.size + 1 := by simp
    generalize w.alloc (.cells #[.string ⟨#[]⟩, .slice none 0 0, .slice none 0 0, .slice none 0 0, .int .i64 0, .slice none 0 0, .slice none 0 0, .slice none 0 0] 29) = W1 at *
    have b2 : Below W1.heap.size W1 (W1.alloc (.cells #[.string ⟨#[]⟩, .slice none 0 0, .slice none 0 0, .slice none 0 0, .int .i64 0, .slice none 0 0, .slice none 0 0, .slice none 0 0] 29)) := (Below.refl _ _).alloc (Nat.le_refl _) _
    have k2 := Blk.new W1 #[.string ⟨#[]⟩, .slice none 0 0, .slice none 0 0, .slice none 0 0, .int .i64 0, .slice none 0 0, .slice none 0 0, .slice none 0 0] 29
    rw [hs1] at k2
    exact ⟨b1.trans (b2.mono (by omega)), k1.below b2, k2⟩
  obtain ⟨B0, K0, K1⟩ := F0
  have hs0 : W0.heap.size = w.heap.size + 2 := by rw [hW0]; simp
  have S0 := ss_new h (by omega) hb h2 B0 K0 K1 hs0
  have b0 := (h.below B0).at 0 (by omega)
  have b1 := (h.below B0).at 1 (by omega)
  rw [x0] at b0
  rw [x1] at b1
  have m0 : (0 : Int) < (n : Int) := by omega
  have m1 : (1 : Int) < (n : Int) := by omega
  have c1' : ¬ (20000 : Int) < (n : Int) := by omega
  have c2' : ¬ (n : Int) < 2 := by omega
  rw [hW0] at S0 b0 b1
  have HS0 := hide S0
  clear B0 K0 K1 h hby S0 hs0 hW0 x0 x1
  go_enter Try.func6, Try.ntmps6
  go_wp2_with fail
  refine HS0.out.text.mono ?_
  rintro e w1 ⟨nm, s1, rfl, L1, E, T1⟩
  clear HS0 T1 b0 b1
  have q : w1.cell? ⟨w.heap.size + 3, 0, none⟩ = some (.string ⟨#[]⟩) := E.k2.cell 0
  have f := E.k2.frozen 0
  have HLt := hide L1
  have E1 : Ss w (w1.setCell ⟨w.heap.size + 3, 0, none⟩ (.string nm)) b n cap zs s1 #[.string nm, .slice none 0 0, .slice none 0 0, .slice none 0 0, .int .i64 0, .slice none 0 0, .slice none 0 0, .slice none 0 0] := E.set 0 (.string nm)
  clear E L1
  go_wp2_with fail
  refine E1.words.mono ?_
  rintro e w2 ⟨tz, s2, a1, d1, rfl, o1, L2, E, T2⟩
  have o1 := o1.mono E1.sz
  have HLw := hide L2
  clear E1 T2 q f L2
  have q : w2.cell? ⟨w.heap.size + 3, 1, none⟩ = some (.slice none 0 0) := E.k2.cell 1
  have f := E.k2.frozen 1
  have E1 : Ss w (w2.setCell ⟨w.heap.size + 3, 1, none⟩ (.slice a1 tz.length d1)) b n cap zs s2 #[.string nm, .slice a1 tz.length d1, .slice none 0 0, .slice none 0 0, .int .i64 0, .slice none 0 0, .slice none 0 0, .slice none 0 0] := E.set 1 (.slice a1 tz.length d1)
  have HA := hide (sts_og (Nat.le_refl _) _ _ (Sg.b (w := w) (W := w2) 1 (.slice a1 tz.length d1)) o1)
  have HST : Hid (StS w (fun W => OG 3 1 clI W (w.heap.size + 4) (.slice a1 tz.length d1) tz)) := hide (sts_og (Nat.le_refl _))
  clear E o1
  go_wp2_with fail
  refine (E1.num 1 (Or.inl rfl)).mono ?_
  rintro e w3 ⟨m3, s3, rfl, hl3, hm3, L, En, T⟩
  have hm3 := hm3 rfl
  have HL3n := hide L
  have HA2 := hide (HST.out _ _ T HA.out)
  clear HA L T E1
  have HA := HA2
  have E := En
  clear HA2 En
  clear q f
  have HT1 := hide (show ∀ k, (Value.slice a1 tz.length d1).ownBlock = some k → k < w3.heap.size from fun k hk => (HA.out.lt k hk).2)
  obtain ⟨iI7, hi7, hz07, hz17, hz27⟩ := info_parts infoB
  have hsz7 := E.sz
  go_wp2_with fail
  go_loopw [7] (fun i wr => ∃ (k : Nat) (xs : List Bk) (s' : Option (List Int)) (a : Option Addr) (c : Nat), k ≤ m3 ∧ i = .int .i64 ((m3 - k : Nat) : Int) ∧ xs.length = k ∧ OBk wr w3.heap.size (.slice a k c) xs ∧ Ss w wr b n cap zs s' #[.string nm, .slice a1 tz.length d1, .slice a k c, .slice none 0 0, .int .i64 0, .slice none 0 0, .slice none 0 0, .slice none 0 0] ∧ Turn (Sg w) w3 wr ∧ Lm pL m3 k s3 (xs.map fun B => B.2.2.2) s') (fun i _ => (intOf i).toNat)
  case atStart => exact ⟨0, [], s3, none, 0, Nat.zero_le _, rfl, rfl, obk_nil _ _, E, Turn.refl _ _, lm_zero _ _ _⟩
  case round =>
    obtain ⟨k7, x7, r7, a7, c7, hk7, rfl, hx7, O, S, T, L⟩ := hrel
    generalize wr = wr7 at *
    clear E
    have q2 := S.short
    by_cases hlt7 : k7 < m3
    · have hlt' : (0 : Int) < ((m3 - k7 : Nat) : Int) := by omega
      cases r7 with
      | none =>
        simp at q2
        have HP := hide (prs2_none (lf_mod HLt.out HLw.out HL3n.out (L.done (.inr rfl) hk7) (lf_dead (pN 2) 0) (lf_dead (pB 0) []) (lf_dead (pN 2) 0) (lf_dead (pN 1) 0) (lf_dead (pM (pN 2) 0) []) (lf_dead (pN 1) 0) (lf_dead (pM pT 0) []) (lf_dead (pN 1) 0) (lf_dead (pM pX 0) [])))
        clear O T L HA HST HLt HLw HL3n
        go_wp2_with fail
        refine (S.num0 2 (Or.inr rfl)).mono ?_
        rintro e t1 ⟨rfl, S1⟩
        clear S
        go_wp2_with fail
        refine S1.bytes0.mono ?_
        rintro e u1 ⟨av1, cv1, rfl, R1⟩
        clear S1
        have q1 : u1.cell? ⟨w.heap.size + 3, 3, none⟩ = some (.slice none 0 0) := R1.k2.cell 3
        have f1 := R1.k2.frozen 3
        have U1 : Ss w (u1.setCell ⟨w.heap.size + 3, 3, none⟩ (.slice av1 0 cv1)) b n cap zs none #[.string nm, .slice a1 tz.length d1, .slice a7 k7 c7, .slice av1 0 cv1, .int .i64 0, .slice none 0 0, .slice none 0 0, .slice none 0 0] := R1.set 3 (.slice av1 0 cv1)
        clear R1
        go_wp2_with fail
        refine (U1.num0 2 (Or.inr rfl)).mono ?_
        rintro e t2 ⟨rfl, S2⟩
        clear U1 q1 f1
        have q2 : t2.cell? ⟨w.heap.size + 3, 4, none⟩ = some (.int .i64 0) := S2.k2.cell 4
        have f2 := S2.k2.frozen 4
        have U2 : Ss w (t2.setCell ⟨w.heap.size + 3, 4, none⟩ (.int .i64 0)) b n cap zs none #[.string nm, .slice a1 tz.length d1, .slice a7 k7 c7, .slice av1 0 cv1, .int .i64 0, .slice none 0 0, .slice none 0 0, .slice none 0 0] := S2.set 4 (.int .i64 0)
        clear S2
        go_wp2_with fail
        refine (U2.num0 1 (Or.inl rfl)).mono ?_
        rintro e t3 ⟨rfl, S3⟩
        clear U2
        go_wp2_with fail
        go_loopw [8] (fun i wr => i = .int .i64 0 ∧ Ss w wr b n cap zs none #[.string nm, .slice a1 tz.length d1, .slice a7 k7 c7, .slice av1 0 cv1, .int .i64 0, .slice none 0 0, .slice none 0 0, .slice none 0 0]) (fun _ _ => 0)
        case atStart => exact ⟨rfl, S3⟩
        case round =>
          obtain ⟨rfl, U3⟩ := hrel
          clear S3
          go_wp2_with fail
          refine (U3.num0 1 (Or.inl rfl)).mono ?_
          rintro e t4 ⟨rfl, S4⟩
          clear U3
          go_wp2_with fail
          go_loopw [9] (fun i wr => i = .int .i64 0 ∧ Ss w wr b n cap zs none #[.string nm, .slice a1 tz.length d1, .slice a7 k7 c7, .slice av1 0 cv1, .int .i64 0, .slice none 0 0, .slice none 0 0, .slice none 0 0]) (fun _ _ => 0)
          case atStart => exact ⟨rfl, S4⟩
          case round =>
            obtain ⟨rfl, U4⟩ := hrel
            clear S4
            go_wp2_with fail
            refine (U4.num0 1 (Or.inl rfl)).mono ?_
            rintro e t5 ⟨rfl, S5⟩
            clear U4
            go_wp2_with fail
            go_loopw [10] (fun i wr => i = .int .i64 0 ∧ Ss w wr b n cap zs none #[.string nm, .slice a1 tz.length d1, .slice a7 k7 c7, .slice av1 0 cv1, .int .i64 0, .slice none 0 0, .slice none 0 0, .slice none 0 0]) (fun _ _ => 0)
            case atStart => exact ⟨rfl, S5⟩
            case round =>
              obtain ⟨rfl, U5⟩ := hrel
              clear S5
              have qs := U5.short
              simp at qs
              obtain ⟨u0, u1, u2, u3, u4, u5, u6, u7⟩ := z8_cells U5.k1
              obtain ⟨p0, p1, p2, p3, p4, p5, p6, p7⟩ := z8_cells U5.k0
              obtain ⟨y0, y1, y2, y3, y4, y5, y6, y7⟩ := z8_frozen U5.k0
              have HE := hide U5
              clear U5
              go_wp2
              exact none_end HE.out.be HE.out.k0 2 _ HP.out _ rfl rfl
      | some r =>
        simp at q2
        obtain ⟨p2, f2⟩ := S.two 2 (.slice a7 k7 c7) rfl
        have HO := hide (And.intro O (And.intro S (And.intro T L)))
        have hszw := S.sz
        have hsz3 := T.size
        have HLO := hide (show ∀ B ∈ x7, ∀ j, (Value.slice B.1 B.2.1 B.2.2.1).ownBlock = some j → j < wr7.heap.size from fun B hB j hj => ((O.rows B hB).2.lt j hj).2)
        have HBL := hide hx7
        clear O S T L hx7
        go_wp2_with fail
        go_region_law (first
          | (refine step_append_lies _ rfl _ _ 25 rfl w3.heap.size 24 iI7 (.slice none 0 0) 1 24 Try.underlying25 hi7 hz07 hz17 hz27 rfl (by decide) (.slice a7 k7 c7) k7 (x7.map fun B => Value.slice B.1 B.2.1 B.2.2.1) rfl HOW.out ⟨wa.heap.size, 0, none⟩ 1 1 [.slice A x.length C] rfl rfl (cells_new wa _ _ [.slice A x.length C] rfl) (by intro u hu; simp [clI, clT] at hu; subst hu; rfl) (by decide) (by unfold maxLen; omega) (by omega) (by simp; omega) _ rfl ?_; intro g4 c4 w4 hown hgr hat hlt4; obtain ⟨p4, f4⟩ := (SAL.out.grown hgr (fun j hj => (OAL.out.lt j hj).1) (by omega)).two 2 (.slice a7 k7 c7) rfl)
          | (go_simp; go_at_call 23; refine (Ss.words (w := w) (b := b) (n := n) (cap := cap) (zs := zs) (st := some r) (cs := #[.string nm, .slice a1 tz.length d1, .slice a7 k7 c7, .slice none 0 0, .int .i64 0, .slice none 0 0, .slice none 0 0, .slice none 0 0]) (by first | exact HO.out.2.1 | exact HO.out.2.1.drew)).mono ?_; rintro e wa ⟨x, s4, A, C, rfl, ox, La, SA, Ta⟩; have Ta' : Turn (Sg w) wr7 wa := ⟨Ta.os, Ta.tape, Ta.output, Ta.size, Ta.block⟩; have al : Below wa.heap.size wa (wa.alloc (.cells #[.slice A x.length C] 24)) := (Below.refl _ _).alloc (Nat.le_refl _) _; obtain ⟨pa, fa⟩ := SA.two 2 (.slice a7 k7 c7) rfl; have hsa := SA.sz; have hsa3 := Ta'.size; have OAL := hide ((HO.out.1.turn Ta' (fun j hj => by unfold Sg at hj; omega)).turn (S := fun _ => False) (turn_below al) (fun j hj => absurd hj id)); have SAL := hide (SA.below al); obtain ⟨pb, fb⟩ := SAL.out.two 2 (.slice a7 k7 c7) rfl; have HOW := hide (show (wa.alloc (.cells #[.slice A x.length C] 24)).ownsRow w3.heap.size 24 1 (.slice a7 k7 c7) k7 (x7.map fun B => Value.slice B.1 B.2.1 B.2.2.1) by have := OAL.out.head; rw [HBL.out] at this; exact this); have HX := hide (And.intro (ox.below al) (And.intro Ta' La)); clear ox Ta Ta' La al SA))
        all_goals
          obtain ⟨O, S, T, L⟩ := HO.out
          obtain ⟨ox, Ta, La⟩ := HX.out
          have hrow : ∀ j, (Value.slice a7 k7 c7).ownBlock = some j → w3.heap.size ≤ j := fun j hj => (OAL.out.lt j hj).1
          have O5 := (OAL.out.push HBL.out ox (by exact hsz3) HLO.out hown hgr).turn (turn_set w4 (w.heap.size + 3) 2 (.slice (some ⟨g4, 0, none⟩) (k7 + 1) c4)) (fun j hj => by omega)
          have S5 : Ss w (w4.setCell ⟨w.heap.size + 3, 2, none⟩ (.slice (some ⟨g4, 0, none⟩) (k7 + 1) c4)) b n cap zs s4 #[.string nm, .slice a1 tz.length d1, .slice (some ⟨g4, 0, none⟩) (k7 + 1) c4, .slice none 0 0, .int .i64 0, .slice none 0 0, .slice none 0 0, .slice none 0 0] := (SAL.out.grown hgr hrow (by omega)).set 2 (.slice (some ⟨g4, 0, none⟩) (k7 + 1) c4)
          have T5 : Turn (Sg w) w3 (w4.setCell ⟨w.heap.size + 3, 2, none⟩ (.slice (some ⟨g4, 0, none⟩) (k7 + 1) c4)) := (turn_grown ((T.trans Ta).trans (turn_alloc _ _)) hgr hrow).trans (Sg.b 2 (.slice (some ⟨g4, 0, none⟩) (k7 + 1) c4))
          have L5 := L.step hlt7 La
          have HF := hide (And.intro O5 (And.intro S5 (And.intro T5 L5)))
          have HLE := hide (show (x7 ++ [((A, x.length, C, x) : Bk)]).length = k7 + 1 by rw [List.length_append, HBL.out]; rfl)
          have HMA := hide (show (x7 ++ [((A, x.length, C, x) : Bk)]).map (fun B => B.2.2.2) = x7.map (fun B => B.2.2.2) ++ [x] by simp)
          have HDEC := hide (show ((m3 - k7 : Nat) : Int) - 1 = ((m3 - (k7 + 1) : Nat) : Int) by omega)
          clear O S T L ox Ta La hrow O5 S5 T5 L5 HO HX OAL SAL HOW hown hgr hat hlt4 p4 f4 pa fa pb fb
          go_wp2
          go_roundw
          case rel => exact ⟨k7 + 1, x7 ++ [((A, x.length, C, x) : Bk)], s4, some ⟨g4, 0, none⟩, c4, by omega, by rw [← HDEC.out], HLE.out, HF.out.1, HF.out.2.1, HF.out.2.2.1, by rw [HMA.out]; exact HF.out.2.2.2⟩
          case measure => simp [intOf]; omega
    · have hlt' : ¬ (0 : Int) < ((m3 - k7 : Nat) : Int) := by omega
      have hkm7 : k7 = m3 := by omega
      have HL7 := hide (L.done (.inl hkm7) hk7)
      have HX7 := hide hx7
      have HA2 := hide (HST.out _ _ T HA.out)
      have HB := hide O
      have HT := hide T.size
      have E := S
      clear HA L T O S hx7 hkm7
      have HA := HA2
      clear HA2
      have HSB := hide (show ∀ B ∈ x7, ∀ j, (Value.slice B.1 B.2.1 B.2.2.1).ownBlock = some j → w3.heap.size ≤ j from fun B hB j hj => ((HB.out.rows B hB).2.lt j hj).1)
      have HAn := hide (And.intro HA.out (HB.out.mono hsz7))
      have HSTn := hide (HST.out.and (sts_obk (w := w) (v := .slice a7 k7 c7) (bl := x7) (Nat.le_refl _)))
      clear HA HST HB
      have HA := HAn
      have HST := HSTn
      clear HAn HSTn q2
      go_wp2_with fail
      refine (E.num 2 (Or.inr rfl)).mono ?_
      rintro e w4 ⟨m4, s4, rfl, hl4, hm4, L, En, T⟩
      clear hm4
      have HL4n := hide L
      have HA2 := hide (HST.out _ _ T HA.out)
      clear HA L T E
      have HA := HA2
      have E := En
      clear HA2 En
      go_wp2_with fail
      refine (E.bytes m4 hl4).mono ?_
      rintro e w5 ⟨dz, s5, a3, d3, rfl, o3, L, E1, T⟩
      have o3 := hide (show OB w5 (w.heap.size + 4) (.slice a3 dz.length d3) dz from OB.mono o3 E.sz)
      have HLb := hide L
      have HA2 := hide (HST.out _ _ T HA.out)
      clear HA L T E
      have HA := HA2
      clear HA2
      have q : w5.cell? ⟨w.heap.size + 3, 3, none⟩ = some (.slice none 0 0) := E1.k2.cell 3
      have f := E1.k2.frozen 3
      have E : Ss w (w5.setCell ⟨w.heap.size + 3, 3, none⟩ (.slice a3 dz.length d3)) b n cap zs s5 #[.string nm, .slice a1 tz.length d1, .slice a7 k7 c7, .slice a3 dz.length d3, .int .i64 0, .slice none 0 0, .slice none 0 0, .slice none 0 0] := E1.set 3 (.slice a3 dz.length d3)
      have HSTn := hide (HST.out.and (sts_ob (w := w) (v := .slice a3 dz.length d3) (zs := dz) (Nat.le_refl _)))
      have HAn := hide (HSTn.out _ _ (Sg.b (w := w) (W := w5) 3 (.slice a3 dz.length d3)) (And.intro HA.out o3.out))
      clear E1 HA HST o3
      have HA := HAn
      have HST := HSTn
      clear HAn HSTn
      go_wp2_with fail
      refine (E.num 2 (Or.inr rfl)).mono ?_
      rintro e w6 ⟨m6, s6, rfl, hl6, hm6, L, En, T⟩
      clear hm6
      have HL6n := hide L
      have HA2 := hide (HST.out _ _ T HA.out)
      clear HA L T E
      have HA := HA2
      have E := En
      clear HA2 En
      clear q f
      have q : w6.cell? ⟨w.heap.size + 3, 4, none⟩ = some (.int .i64 0) := E.k2.cell 4
      have f := E.k2.frozen 4
      have E1 : Ss w (w6.setCell ⟨w.heap.size + 3, 4, none⟩ (.int .i64 (m6 : Int))) b n cap zs s6 #[.string nm, .slice a1 tz.length d1, .slice a7 k7 c7, .slice a3 dz.length d3, .int .i64 (m6 : Int), .slice none 0 0, .slice none 0 0, .slice none 0 0] := E.set 4 (.int .i64 (m6 : Int))
      have HA2 := hide (HST.out _ _ (Sg.b (w := w) (W := w6) 4 (.int .i64 (m6 : Int))) HA.out)
      clear E HA
      have HA := HA2
      clear HA2
      go_wp2_with fail
      refine (E1.num 1 (Or.inl rfl)).mono ?_
      rintro e w8 ⟨m8, s8, rfl, hl8, hm8, L, En, T⟩
      have hm8 := hm8 rfl
      have HL8n := hide L
      have HA2 := hide (HST.out _ _ T HA.out)
      clear HA L T E1
      have HA := HA2
      have E := En
      clear HA2 En
      clear q f
      have HT8 := hide (show ∀ k, (Value.slice a1 tz.length d1).ownBlock = some k → k < w8.heap.size from fun k hk => (HA.out.1.1.lt k hk).2)
      have HB8 := hide (show ∀ B ∈ x7, ∀ j, (Value.slice B.1 B.2.1 B.2.2.1).ownBlock = some j → w3.heap.size ≤ j ∧ j < w8.heap.size from fun B hB j hj => ⟨(HSB.out B hB j hj), ((HA.out.1.2.rows B hB).2.lt j hj).2⟩)
      clear HSB
      obtain ⟨iI8, hi8, hz08, hz18, hz28⟩ := info_parts infoI
      have hsz8 := E.sz
      go_wp2_with fail
      go_loopw [8] (fun i wr => ∃ (k : Nat) (xs : List Int) (s' : Option (List Int)) (a : Option Addr) (c : Nat), k ≤ m8 ∧ i = .int .i64 ((m8 - k : Nat) : Int) ∧ xs.length = k ∧ OG 3 1 clI wr w8.heap.size (.slice a k c) xs ∧ Ss w wr b n cap zs s' #[.string nm, .slice a1 tz.length d1, .slice a7 k7 c7, .slice a3 dz.length d3, .int .i64 (m6 : Int), .slice a k c, .slice none 0 0, .slice none 0 0] ∧ Turn (Sg w) w8 wr ∧ Lm (pN 2) m8 k s8 xs s') (fun i _ => (intOf i).toNat)
      case atStart => exact ⟨0, [], s8, none, 0, Nat.zero_le _, rfl, rfl, og_nil _ _ _ _ _, E, Turn.refl _ _, lm_zero _ _ _⟩
      case round =>
        obtain ⟨k8, x8, r8, a8, c8, hk8, rfl, hx8, O, S, T, L⟩ := hrel
        generalize wr = wr8 at *
        clear E
        have q2 := S.short
        by_cases hlt8 : k8 < m8
        · have hlt' : (0 : Int) < ((m8 - k8 : Nat) : Int) := by omega
          cases r8 with
          | none =>
            simp at q2
            have HP := hide (prs2_none (lf_mod HLt.out HLw.out HL3n.out HL7.out HL4n.out HLb.out HL6n.out HL8n.out (L.done (.inr rfl) hk8) (lf_dead (pN 1) 0) (lf_dead (pM pT 0) []) (lf_dead (pN 1) 0) (lf_dead (pM pX 0) [])))
            clear O T L HA HST HLt HLw HL3n HL7 HL4n HLb HL6n HL8n
            go_wp2_with fail
            refine (S.num0 1 (Or.inl rfl)).mono ?_
            rintro e t1 ⟨rfl, S1⟩
            clear S
            go_wp2_with fail
            go_loopw [9] (fun i wr => i = .int .i64 0 ∧ Ss w wr b n cap zs none #[.string nm, .slice a1 tz.length d1, .slice a7 k7 c7, .slice a3 dz.length d3, .int .i64 (m6 : Int), .slice a8 k8 c8, .slice none 0 0, .slice none 0 0]) (fun _ _ => 0)
            case atStart => exact ⟨rfl, S1⟩
            case round =>
              obtain ⟨rfl, U1⟩ := hrel
              clear S1
              go_wp2_with fail
              refine (U1.num0 1 (Or.inl rfl)).mono ?_
              rintro e t2 ⟨rfl, S2⟩
              clear U1
              go_wp2_with fail
              go_loopw [10] (fun i wr => i = .int .i64 0 ∧ Ss w wr b n cap zs none #[.string nm, .slice a1 tz.length d1, .slice a7 k7 c7, .slice a3 dz.length d3, .int .i64 (m6 : Int), .slice a8 k8 c8, .slice none 0 0, .slice none 0 0]) (fun _ _ => 0)
              case atStart => exact ⟨rfl, S2⟩
              case round =>
                obtain ⟨rfl, U2⟩ := hrel
                clear S2
                have qs := U2.short
                simp at qs
                obtain ⟨u0, u1, u2, u3, u4, u5, u6, u7⟩ := z8_cells U2.k1
                obtain ⟨p0, p1, p2, p3, p4, p5, p6, p7⟩ := z8_cells U2.k0
                obtain ⟨y0, y1, y2, y3, y4, y5, y6, y7⟩ := z8_frozen U2.k0
                have HE := hide U2
                clear U2
                go_wp2
                exact none_end HE.out.be HE.out.k0 2 _ HP.out _ rfl rfl
          | some r =>
            simp at q2
            obtain ⟨p2, f2⟩ := S.two 5 (.slice a8 k8 c8) rfl
            have HO := hide (And.intro O (And.intro S (And.intro T L)))
            have hszw := S.sz
            have hsz3 := T.size
            have HBL := hide hx8
            clear O S T L hx8
            go_wp2_with fail
            go_region_law (first
              | (refine step_append_lies _ rfl _ _ 24 rfl w8.heap.size 3 iI8 (.int .i64 0) 1 8 Try.underlying24 hi8 hz08 hz18 hz28 rfl (by decide) (.slice a8 k8 c8) k8 (x8.flatMap clI) rfl HOW.out ⟨wa.heap.size, 0, none⟩ 1 1 (clI (x : Int)) rfl rfl (cells_new wa _ _ (clI (x : Int)) rfl) (by intro u hu; simp [clI, clT] at hu; subst hu; rfl) (by decide) (by unfold maxLen; omega) (by omega) (by simp; omega) _ rfl ?_; intro g4 c4 w4 hown hgr hat hlt4; obtain ⟨p4, f4⟩ := (SAL.out.grown hgr (fun j hj => (OAL.out.lt j hj).1) (by omega)).two 5 (.slice a8 k8 c8) rfl)
              | (go_simp; go_at_call 24; refine (Ss.num (w := w) (b := b) (n := n) (cap := cap) (zs := zs) (st := some r) (cs := #[.string nm, .slice a1 tz.length d1, .slice a7 k7 c7, .slice a3 dz.length d3, .int .i64 (m6 : Int), .slice a8 k8 c8, .slice none 0 0, .slice none 0 0]) (by first | exact HO.out.2.1 | exact HO.out.2.1.drew) 2 (Or.inr rfl)).mono ?_; rintro e wa ⟨x, s4, rfl, _, _, La, SA, Ta⟩; have Ta' : Turn (Sg w) wr8 wa := ⟨Ta.os, Ta.tape, Ta.output, Ta.size, Ta.block⟩; have al : Below wa.heap.size wa (wa.alloc (.cells #[.int .i64 (x : Int)] 3)) := (Below.refl _ _).alloc (Nat.le_refl _) _; obtain ⟨pa, fa⟩ := SA.two 5 (.slice a8 k8 c8) rfl; have hsa := SA.sz; have hsa3 := Ta'.size; have OAL := hide ((HO.out.1.turn Ta' (fun j hj => by unfold Sg at hj; omega)).turn (S := fun _ => False) (turn_below al) (fun j hj => absurd hj id)); have SAL := hide (SA.below al); obtain ⟨pb, fb⟩ := SAL.out.two 5 (.slice a8 k8 c8) rfl; have HOW := hide (show (wa.alloc (.cells #[.int .i64 (x : Int)] 3)).ownsRow w8.heap.size 3 1 (.slice a8 k8 c8) k8 (x8.flatMap clI) by have := OAL.out; unfold OG at this; rw [HBL.out] at this; exact this); have HX := hide (And.intro (True.intro) (And.intro Ta' La)); clear Ta Ta' La al SA))
            all_goals
              obtain ⟨O, S, T, L⟩ := HO.out
              obtain ⟨ox, Ta, La⟩ := HX.out
              have hrow : ∀ j, (Value.slice a8 k8 c8).ownBlock = some j → w8.heap.size ≤ j := fun j hj => (OAL.out.lt j hj).1
              have O4 : OG 3 1 clI w4 w8.heap.size (.slice (some ⟨g4, 0, none⟩) (k8 + 1) c4) (x8 ++ [(x : Int)]) := by
                unfold OG
                rw [List.length_append, HBL.out, List.flatMap_append, List.flatMap_singleton]
                exact hown
              have O5 := O4.turn (turn_set w4 (w.heap.size + 3) 5 (.slice (some ⟨g4, 0, none⟩) (k8 + 1) c4)) (fun j hj => by omega)
              clear O4
              have S5 : Ss w (w4.setCell ⟨w.heap.size + 3, 5, none⟩ (.slice (some ⟨g4, 0, none⟩) (k8 + 1) c4)) b n cap zs s4 #[.string nm, .slice a1 tz.length d1, .slice a7 k7 c7, .slice a3 dz.length d3, .int .i64 (m6 : Int), .slice (some ⟨g4, 0, none⟩) (k8 + 1) c4, .slice none 0 0, .slice none 0 0] := (SAL.out.grown hgr hrow (by omega)).set 5 (.slice (some ⟨g4, 0, none⟩) (k8 + 1) c4)
              have T5 : Turn (Sg w) w8 (w4.setCell ⟨w.heap.size + 3, 5, none⟩ (.slice (some ⟨g4, 0, none⟩) (k8 + 1) c4)) := (turn_grown ((T.trans Ta).trans (turn_alloc _ _)) hgr hrow).trans (Sg.b 5 (.slice (some ⟨g4, 0, none⟩) (k8 + 1) c4))
              have L5 := L.step hlt8 La
              have HF := hide (And.intro O5 (And.intro S5 (And.intro T5 L5)))
              have HLE := hide (show (x8 ++ [(x : Int)]).length = k8 + 1 by rw [List.length_append, HBL.out]; rfl)
              have HDEC := hide (show ((m8 - k8 : Nat) : Int) - 1 = ((m8 - (k8 + 1) : Nat) : Int) by omega)
              clear O S T L ox Ta La hrow O5 S5 T5 L5 HO HX OAL SAL HOW hown hgr hat hlt4 p4 f4 pa fa pb fb
              go_wp2
              go_roundw
              case rel => exact ⟨k8 + 1, x8 ++ [(x : Int)], s4, some ⟨g4, 0, none⟩, c4, by omega, by rw [← HDEC.out], HLE.out, HF.out.1, HF.out.2.1, HF.out.2.2.1, HF.out.2.2.2⟩
              case measure => simp [intOf]; omega
        · have hlt' : ¬ (0 : Int) < ((m8 - k8 : Nat) : Int) := by omega
          have hkm8 : k8 = m8 := by omega
          have HL8 := hide (L.done (.inl hkm8) hk8)
          have HX8 := hide hx8
          have HA2 := hide (HST.out _ _ T HA.out)
          have HB := hide O
          have HT := hide T.size
          have E := S
          clear HA L T O S hx8 hkm8
          have HA := HA2
          clear HA2
          have HSR := hide (show ∀ j, (Value.slice a8 k8 c8).ownBlock = some j → w8.heap.size ≤ j from fun j hj => (HB.out.lt j hj).1)
          have HAn := hide (And.intro HA.out (HB.out.mono hsz8))
          have HSTn := hide (HST.out.and (sts_og (w := w) (t := 3) (sz := 1) (f := clI) (v := .slice a8 k8 c8) (xs := x8) (Nat.le_refl _)))
          clear HA HST HB
          have HA := HAn
          have HST := HSTn
          clear HAn HSTn q2
          go_wp2_with fail
          refine (E.num 1 (Or.inl rfl)).mono ?_
          rintro e w9 ⟨m9, s9, rfl, hl9, hm9, L, En, T⟩
          have hm9 := hm9 rfl
          have HL9n := hide L
          have HA2 := hide (HST.out _ _ T HA.out)
          clear HA L T E
          have HA := HA2
          have E := En
          clear HA2 En
          obtain ⟨iI9, hi9, hz09, hz19, hz29⟩ := info_parts infoT
          have hsz9 := E.sz
          go_wp2_with fail
          go_loopw [9] (fun i wr => ∃ (k : Nat) (xs : List ByteArray) (s' : Option (List Int)) (a : Option Addr) (c : Nat), k ≤ m9 ∧ i = .int .i64 ((m9 - k : Nat) : Int) ∧ xs.length = k ∧ OG 9 1 clT wr w9.heap.size (.slice a k c) xs ∧ Ss w wr b n cap zs s' #[.string nm, .slice a1 tz.length d1, .slice a7 k7 c7, .slice a3 dz.length d3, .int .i64 (m6 : Int), .slice a8 k8 c8, .slice a k c, .slice none 0 0] ∧ Turn (Sg w) w9 wr ∧ Lm pT m9 k s9 xs s') (fun i _ => (intOf i).toNat)
          case atStart => exact ⟨0, [], s9, none, 0, Nat.zero_le _, rfl, rfl, og_nil _ _ _ _ _, E, Turn.refl _ _, lm_zero _ _ _⟩
          case round =>
            obtain ⟨k9, x9, r9, a9, c9, hk9, rfl, hx9, O, S, T, L⟩ := hrel
            generalize wr = wr9 at *
            clear E
            have q2 := S.short
            by_cases hlt9 : k9 < m9
            · have hlt' : (0 : Int) < ((m9 - k9 : Nat) : Int) := by omega
              cases r9 with
              | none =>
                simp at q2
                have HP := hide (prs2_none (lf_mod HLt.out HLw.out HL3n.out HL7.out HL4n.out HLb.out HL6n.out HL8n.out HL8.out HL9n.out (L.done (.inr rfl) hk9) (lf_dead (pN 1) 0) (lf_dead (pM pX 0) [])))
                clear O T L HA HST HLt HLw HL3n HL7 HL4n HLb HL6n HL8n HL8 HL9n
                go_wp2_with fail
                refine (S.num0 1 (Or.inl rfl)).mono ?_
                rintro e t1 ⟨rfl, S1⟩
                clear S
                go_wp2_with fail
                go_loopw [10] (fun i wr => i = .int .i64 0 ∧ Ss w wr b n cap zs none #[.string nm, .slice a1 tz.length d1, .slice a7 k7 c7, .slice a3 dz.length d3, .int .i64 (m6 : Int), .slice a8 k8 c8, .slice a9 k9 c9, .slice none 0 0]) (fun _ _ => 0)
                case atStart => exact ⟨rfl, S1⟩
                case round =>
                  obtain ⟨rfl, U1⟩ := hrel
                  clear S1
                  have qs := U1.short
                  simp at qs
                  obtain ⟨u0, u1, u2, u3, u4, u5, u6, u7⟩ := z8_cells U1.k1
                  obtain ⟨p0, p1, p2, p3, p4, p5, p6, p7⟩ := z8_cells U1.k0
                  obtain ⟨y0, y1, y2, y3, y4, y5, y6, y7⟩ := z8_frozen U1.k0
                  have HE := hide U1
                  clear U1
                  go_wp2
                  exact none_end HE.out.be HE.out.k0 2 _ HP.out _ rfl rfl
              | some r =>
                simp at q2
                obtain ⟨p2, f2⟩ := S.two 6 (.slice a9 k9 c9) rfl
                have HO := hide (And.intro O (And.intro S (And.intro T L)))
                have hszw := S.sz
                have hsz3 := T.size
                have HBL := hide hx9
                clear O S T L hx9
                go_wp2_with fail
                go_region_law (first
                  | (refine step_append_lies _ rfl _ _ 26 rfl w9.heap.size 9 iI9 (.string ⟨#[]⟩) 1 16 Try.underlying26 hi9 hz09 hz19 hz29 rfl (by decide) (.slice a9 k9 c9) k9 (x9.flatMap clT) rfl HOW.out ⟨wa.heap.size, 0, none⟩ 1 1 (clT x) rfl rfl (cells_new wa _ _ (clT x) rfl) (by intro u hu; simp [clI, clT] at hu; subst hu; rfl) (by decide) (by unfold maxLen; omega) (by omega) (by simp; omega) _ rfl ?_; intro g4 c4 w4 hown hgr hat hlt4; obtain ⟨p4, f4⟩ := (SAL.out.grown hgr (fun j hj => (OAL.out.lt j hj).1) (by omega)).two 6 (.slice a9 k9 c9) rfl)
                  | (go_simp; go_at_call 22; refine (Ss.text (w := w) (b := b) (n := n) (cap := cap) (zs := zs) (st := some r) (cs := #[.string nm, .slice a1 tz.length d1, .slice a7 k7 c7, .slice a3 dz.length d3, .int .i64 (m6 : Int), .slice a8 k8 c8, .slice a9 k9 c9, .slice none 0 0]) (by first | exact HO.out.2.1 | exact HO.out.2.1.drew)).mono ?_; rintro e wa ⟨x, s4, rfl, La, SA, Ta⟩; have Ta' : Turn (Sg w) wr9 wa := ⟨Ta.os, Ta.tape, Ta.output, Ta.size, Ta.block⟩; have al : Below wa.heap.size wa (wa.alloc (.cells #[.string x] 9)) := (Below.refl _ _).alloc (Nat.le_refl _) _; obtain ⟨pa, fa⟩ := SA.two 6 (.slice a9 k9 c9) rfl; have hsa := SA.sz; have hsa3 := Ta'.size; have OAL := hide ((HO.out.1.turn Ta' (fun j hj => by unfold Sg at hj; omega)).turn (S := fun _ => False) (turn_below al) (fun j hj => absurd hj id)); have SAL := hide (SA.below al); obtain ⟨pb, fb⟩ := SAL.out.two 6 (.slice a9 k9 c9) rfl; have HOW := hide (show (wa.alloc (.cells #[.string x] 9)).ownsRow w9.heap.size 9 1 (.slice a9 k9 c9) k9 (x9.flatMap clT) by have := OAL.out; unfold OG at this; rw [HBL.out] at this; exact this); have HX := hide (And.intro (True.intro) (And.intro Ta' La)); clear Ta Ta' La al SA))
                all_goals
                  obtain ⟨O, S, T, L⟩ := HO.out
                  obtain ⟨ox, Ta, La⟩ := HX.out
                  have hrow : ∀ j, (Value.slice a9 k9 c9).ownBlock = some j → w9.heap.size ≤ j := fun j hj => (OAL.out.lt j hj).1
                  have O4 : OG 9 1 clT w4 w9.heap.size (.slice (some ⟨g4, 0, none⟩) (k9 + 1) c4) (x9 ++ [x]) := by
                    unfold OG
                    rw [List.length_append, HBL.out, List.flatMap_append, List.flatMap_singleton]
                    exact hown
                  have O5 := O4.turn (turn_set w4 (w.heap.size + 3) 6 (.slice (some ⟨g4, 0, none⟩) (k9 + 1) c4)) (fun j hj => by omega)
                  clear O4
                  have S5 : Ss w (w4.setCell ⟨w.heap.size + 3, 6, none⟩ (.slice (some ⟨g4, 0, none⟩) (k9 + 1) c4)) b n cap zs s4 #[.string nm, .slice a1 tz.length d1, .slice a7 k7 c7, .slice a3 dz.length d3, .int .i64 (m6 : Int), .slice a8 k8 c8, .slice (some ⟨g4, 0, none⟩) (k9 + 1) c4, .slice none 0 0] := (SAL.out.grown hgr hrow (by omega)).set 6 (.slice (some ⟨g4, 0, none⟩) (k9 + 1) c4)
                  have T5 : Turn (Sg w) w9 (w4.setCell ⟨w.heap.size + 3, 6, none⟩ (.slice (some ⟨g4, 0, none⟩) (k9 + 1) c4)) := (turn_grown ((T.trans Ta).trans (turn_alloc _ _)) hgr hrow).trans (Sg.b 6 (.slice (some ⟨g4, 0, none⟩) (k9 + 1) c4))
                  have L5 := L.step hlt9 La
                  have HF := hide (And.intro O5 (And.intro S5 (And.intro T5 L5)))
                  have HLE := hide (show (x9 ++ [x]).length = k9 + 1 by rw [List.length_append, HBL.out]; rfl)
                  have HDEC := hide (show ((m9 - k9 : Nat) : Int) - 1 = ((m9 - (k9 + 1) : Nat) : Int) by omega)
                  clear O S T L ox Ta La hrow O5 S5 T5 L5 HO HX OAL SAL HOW hown hgr hat hlt4 p4 f4 pa fa pb fb
                  go_wp2
                  go_roundw
                  case rel => exact ⟨k9 + 1, x9 ++ [x], s4, some ⟨g4, 0, none⟩, c4, by omega, by rw [← HDEC.out], HLE.out, HF.out.1, HF.out.2.1, HF.out.2.2.1, HF.out.2.2.2⟩
                  case measure => simp [intOf]; omega
            · have hlt' : ¬ (0 : Int) < ((m9 - k9 : Nat) : Int) := by omega
              have hkm9 : k9 = m9 := by omega
              have HL9 := hide (L.done (.inl hkm9) hk9)
              have HX9 := hide hx9
              have HA2 := hide (HST.out _ _ T HA.out)
              have HB := hide O
              have HT := hide T.size
              have E := S
              clear HA L T O S hx9 hkm9
              have HA := HA2
              clear HA2
              have HAn := hide (And.intro HA.out (HB.out.mono hsz9))
              have HSTn := hide (HST.out.and (sts_og (w := w) (t := 9) (sz := 1) (f := clT) (v := .slice a9 k9 c9) (xs := x9) (Nat.le_refl _)))
              clear HA HST HB
              have HA := HAn
              have HST := HSTn
              clear HAn HSTn q2
              go_wp2_with fail
              refine (E.num 1 (Or.inl rfl)).mono ?_
              rintro e w10 ⟨m10, s10, rfl, hl10, hm10, L, En, T⟩
              have hm10 := hm10 rfl
              have HL10n := hide L
              have HA2 := hide (HST.out _ _ T HA.out)
              clear HA L T E
              have HA := HA2
              have E := En
              clear HA2 En
              obtain ⟨iI10, hi10, hz010, hz110, hz210⟩ := info_parts infoX
              have hsz10 := E.sz
              go_wp2_with fail
              go_loopw [10] (fun i wr => ∃ (k : Nat) (xs : List Ex) (s' : Option (List Int)) (a : Option Addr) (c : Nat), k ≤ m10 ∧ i = .int .i64 ((m10 - k : Nat) : Int) ∧ xs.length = k ∧ OG 58 3 clX wr w10.heap.size (.slice a k c) xs ∧ Ss w wr b n cap zs s' #[.string nm, .slice a1 tz.length d1, .slice a7 k7 c7, .slice a3 dz.length d3, .int .i64 (m6 : Int), .slice a8 k8 c8, .slice a9 k9 c9, .slice a k c] ∧ Turn (Sg w) w10 wr ∧ Lm pX m10 k s10 xs s') (fun i _ => (intOf i).toNat)
              case atStart => exact ⟨0, [], s10, none, 0, Nat.zero_le _, rfl, rfl, og_nil _ _ _ _ _, E, Turn.refl _ _, lm_zero _ _ _⟩
              case round =>
                obtain ⟨k10, x10, r10, a10, c10, hk10, rfl, hx10, O, S, T, L⟩ := hrel
                generalize wr = wr10 at *
                clear E
                have q2 := S.short
                by_cases hlt10 : k10 < m10
                · have hlt' : (0 : Int) < ((m10 - k10 : Nat) : Int) := by omega
                  cases r10 with
                  | none =>
                    simp at q2
                    have HP := hide (prs2_none (lf_mod HLt.out HLw.out HL3n.out HL7.out HL4n.out HLb.out HL6n.out HL8n.out HL8.out HL9n.out HL9.out HL10n.out (L.done (.inr rfl) hk10) ))
                    clear O T L HA HST HLt HLw HL3n HL7 HL4n HLb HL6n HL8n HL8 HL9n HL9 HL10n
                    have qs := S.short
                    simp at qs
                    obtain ⟨u0, u1, u2, u3, u4, u5, u6, u7⟩ := z8_cells S.k1
                    obtain ⟨p0, p1, p2, p3, p4, p5, p6, p7⟩ := z8_cells S.k0
                    obtain ⟨y0, y1, y2, y3, y4, y5, y6, y7⟩ := z8_frozen S.k0
                    have HE := hide S
                    clear S
                    go_wp2
                    exact none_end HE.out.be HE.out.k0 2 _ HP.out _ rfl rfl
                  | some r =>
                    simp at q2
                    have al : Below wr10.heap.size wr10 (wr10.alloc (.cells #[.string ⟨#[]⟩, .int .i64 0, .int .i64 0] 58)) := (Below.refl _ _).alloc (Nat.le_refl _) _
                    have X0 := Blk.new wr10 #[.string ⟨#[]⟩, .int .i64 0, .int .i64 0] 58
                    have S0 := S.below al
                    have hszw := S.sz
                    have hsz3 := T.size
                    have HO := hide (And.intro O (And.intro T L))
                    have HBL := hide hx10
                    have HT0 := hide (turn_alloc wr10 (.cells #[.string ⟨#[]⟩, .int .i64 0, .int .i64 0] 58) |>.mono (S' := Sg w) (fun j hj => absurd hj id))
                    clear O S T L hx10 al
                    go_wp2_with fail
                    refine S0.text.mono ?_
                    rintro e y1 ⟨nx, z1, rfl, La, S1, T1⟩
                    have X1 := turn_blk T1 X0 (by unfold Sg; omega)
                    have q0 : y1.cell? ⟨wr10.heap.size, 0, none⟩ = some (.string ⟨#[]⟩) := X1.cell 0
                    have f0 := X1.frozen 0
                    have HT1 := hide (HT0.out.trans T1)
                    have S1 := S1.other (g := wr10.heap.size) 0 (.string nx) hszw
                    have X1 : Blk (y1.setCell ⟨wr10.heap.size, 0, none⟩ (.string nx)) wr10.heap.size #[.string nx, .int .i64 0, .int .i64 0] 58 := X1.set 0 (.string nx)
                    have HT1 := hide (turn_new' HT1.out (Nat.le_refl _) 0 (.string nx))
                    clear S0 X0 T1 HT0
                    go_wp2_with fail
                    refine (S1.num 1 (Or.inl rfl)).mono ?_
                    rintro e y2 ⟨bk, z2, rfl, hbk0, hbk, Lb, S2, T2⟩
                    have hbk := hbk rfl
                    have X2 := turn_blk T2 X1 (by unfold Sg; omega)
                    have q1 : y2.cell? ⟨wr10.heap.size, 1, none⟩ = some (.int .i64 0) := X2.cell 1
                    have f1 := X2.frozen 1
                    have hwb : IntKind.i64.wrap ((bk : Int) - 1) = (bk : Int) - 1 := by rw [IntKind.wrap_i64]; omega
                    have HT2 := hide (HT1.out.trans T2)
                    have S2 := S2.other (g := wr10.heap.size) 1 (.int .i64 ((bk : Int) - 1)) hszw
                    have X2 : Blk (y2.setCell ⟨wr10.heap.size, 1, none⟩ (.int .i64 ((bk : Int) - 1))) wr10.heap.size #[.string nx, .int .i64 ((bk : Int) - 1), .int .i64 0] 58 := X2.set 1 (.int .i64 ((bk : Int) - 1))
                    have HT2 := hide (turn_new' HT2.out (Nat.le_refl _) 1 (.int .i64 ((bk : Int) - 1)))
                    clear S1 X1 T2 HT1 q0 f0
                    go_wp2_with fail
                    refine (S2.num 2 (Or.inr rfl)).mono ?_
                    rintro e y3 ⟨ea, s4, rfl, hea, _, Lc, S3, T3⟩
                    have X3 := turn_blk T3 X2 (by unfold Sg; omega)
                    have q3 : y3.cell? ⟨wr10.heap.size, 2, none⟩ = some (.int .i64 0) := X3.cell 2
                    have f3 := X3.frozen 2
                    have HT3 := hide (HT2.out.trans T3)
                    have S3 := S3.other (g := wr10.heap.size) 2 (.int .i64 (ea : Int)) hszw
                    have X3 : Blk (y3.setCell ⟨wr10.heap.size, 2, none⟩ (.int .i64 (ea : Int))) wr10.heap.size #[.string nx, .int .i64 ((bk : Int) - 1), .int .i64 (ea : Int)] 58 := X3.set 2 (.int .i64 (ea : Int))
                    have HT3 := hide (turn_new' HT3.out (Nat.le_refl _) 2 (.int .i64 (ea : Int)))
                    have Lx := lf_X La Lb Lc
                    clear S2 X2 T3 HT2 q1 f1 La Lb Lc
                    obtain ⟨W5, hW5⟩ : ∃ W5, W5 = y3.setCell ⟨wr10.heap.size, 2, none⟩ (.int .i64 (ea : Int)) := ⟨_, rfl⟩
                    have HS5 := hide (show W5.heap.size = y3.heap.size by rw [hW5]; exact size_setCell _ _ _)
                    have al5 : Below W5.heap.size W5 (W5.alloc (.cells #[.string nx, .int .i64 ((bk : Int) - 1), .int .i64 (ea : Int)] 58)) := (Below.refl _ _).alloc (Nat.le_refl _) _
                    rw [← hW5] at S3 X3 HT3
                    obtain ⟨xa, xb, xc, _⟩ := X3.three
                    obtain ⟨pa, fa⟩ := S3.two 7 (.slice a10 k10 c10) rfl
                    have hsz5 := HT3.out.size
                    have OAL := hide ((HO.out.1.turn HT3.out (fun j hj => by unfold Sg at hj; omega)).turn (S := fun _ => False) (turn_below al5) (fun j hj => absurd hj id))
                    have HOW := hide (show (W5.alloc (.cells #[.string nx, .int .i64 ((bk : Int) - 1), .int .i64 (ea : Int)] 58)).ownsRow w10.heap.size 58 3 (.slice a10 k10 c10) k10 (x10.flatMap clX) by have := OAL.out; unfold OG at this; rw [HBL.out] at this; exact this)
                    have HS := hide (S3.below al5)
                    have HTT := hide ((HO.out.2.1.trans HT3.out).trans (turn_alloc W5 (.cells #[.string nx, .int .i64 ((bk : Int) - 1), .int .i64 (ea : Int)] 58)))
                    have HLE := hide (show (x10 ++ [((nx, ((bk : Int) - 1), (ea : Int)) : Ex)]).length = k10 + 1 by rw [List.length_append, HBL.out]; rfl)
                    rw [hW5] at xa xb xc pa fa
                    clear S3 X3 al5 HT3
                    go_wp2_with (at_builtin; rw [← hW5]; refine wpList_append_own _ rfl _ _ 27 rfl w10.heap.size 58 iI10 (.agg #[.string ⟨#[]⟩, .int .i64 0, .int .i64 0]) 3 32 Try.underlying27 hi10 hz010 hz110 hz210 rfl (by decide) (.slice a10 k10 c10) k10 (x10.flatMap clX) rfl HOW.out ⟨y3.heap.size, 0, none⟩ 1 1 (clX (nx, ((bk : Int) - 1), (ea : Int))) rfl rfl (by rw [← HS5.out]; exact cells_new W5 _ _ (clX (nx, ((bk : Int) - 1), (ea : Int))) rfl) (by intro u hu; simp [clX] at hu; rcases hu with rfl | rfl | rfl <;> rfl) (by unfold maxLen; omega) (by omega) (by simp; omega) ?_; intro v' w4 hown hgr _; have hrow : ∀ j, (Value.slice a10 k10 c10).ownBlock = some j → w10.heap.size ≤ j := fun j hj => (OAL.out.lt j hj).1; have O4 : OG 58 3 clX w4 w10.heap.size v' (x10 ++ [(nx, ((bk : Int) - 1), (ea : Int))]) := (by unfold OG; rw [List.length_append, HBL.out, List.flatMap_append, List.flatMap_singleton]; exact hown); have S4 := HS.out.grown hgr hrow (by omega); obtain ⟨g4, c4, rfl⟩ := og_shape O4; rw [HLE.out] at O4 ⊢; obtain ⟨p4, f4⟩ := S4.two 7 (.slice a10 k10 c10) rfl; have T4 := turn_grown HTT.out hgr hrow; have H4 := hide (And.intro O4 (And.intro S4 T4)); clear O4 S4 T4 hown hgr hrow OAL HOW HS HTT xa xb xc pa fa)
                    obtain ⟨O4, S4, T4⟩ := H4.out
                    have O5 := O4.turn (turn_set w4 (w.heap.size + 3) 7 (.slice g4 (k10 + 1) c4)) (fun j hj => by omega)
                    have S5 : Ss w (w4.setCell ⟨w.heap.size + 3, 7, none⟩ (.slice g4 (k10 + 1) c4)) b n cap zs s4 #[.string nm, .slice a1 tz.length d1, .slice a7 k7 c7, .slice a3 dz.length d3, .int .i64 (m6 : Int), .slice a8 k8 c8, .slice a9 k9 c9, .slice g4 (k10 + 1) c4] := S4.set 7 (.slice g4 (k10 + 1) c4)
                    have T5 := T4.trans (Sg.b (w := w) 7 (.slice g4 (k10 + 1) c4))
                    have L5 := HO.out.2.2.step hlt10 Lx
                    have HF := hide (And.intro O5 (And.intro S5 (And.intro T5 L5)))
                    have HDEC := hide (show ((m10 - k10 : Nat) : Int) - 1 = ((m10 - (k10 + 1) : Nat) : Int) by omega)
                    clear O4 S4 T4 O5 S5 T5 L5 H4 HO
                    go_wp2
                    go_roundw
                    case rel => exact ⟨k10 + 1, x10 ++ [((nx, ((bk : Int) - 1), (ea : Int)) : Ex)], s4, g4, c4, by omega, by rw [← HDEC.out], HLE.out, HF.out.1, HF.out.2.1, HF.out.2.2.1, HF.out.2.2.2⟩
                    case measure => simp [intOf]; omega
                · have hlt' : ¬ (0 : Int) < ((m10 - k10 : Nat) : Int) := by omega
                  have hkm10 : k10 = m10 := by omega
                  have HL10 := hide (L.done (.inl hkm10) hk10)
                  have HX10 := hide hx10
                  have HA2 := hide (HST.out _ _ T HA.out)
                  have HB := hide O
                  have HT := hide T.size
                  have E := S
                  clear HA L T O S hx10 hkm10
                  have HA := HA2
                  clear HA2
                  have LP := lf_mod HLt.out HLw.out HL3n.out HL7.out HL4n.out HLb.out HL6n.out HL8n.out HL8.out HL9n.out HL9.out HL10n.out HL10.out
                  clear HLt HLw HL3n HL7 HL4n HLb HL6n HL8n HL8 HL9n HL9 HL10n HL10
                  have HAn := hide (And.intro HA.out (HB.out.mono hsz10))
                  clear HA HST HB
                  cases r10 with
                  | none =>
                    have HP := hide (prs2_none LP)
                    clear LP
                    have qs := E.short
                    simp at qs
                    obtain ⟨u0, u1, u2, u3, u4, u5, u6, u7⟩ := z8_cells E.k1
                    obtain ⟨p0, p1, p2, p3, p4, p5, p6, p7⟩ := z8_cells E.k0
                    obtain ⟨y0, y1, y2, y3, y4, y5, y6, y7⟩ := z8_frozen E.k0
                    have HE := hide E
                    clear E
                    go_wp2
                    exact none_end HE.out.be HE.out.k0 2 _ HP.out _ rfl rfl
                  | some r =>
                    simp at q2
                    obtain ⟨hpm, hpr⟩ := prs2_some LP
                    clear LP
                    have e7 := HX7.out
                    have e8 := HX8.out
                    have e9 := HX9.out
                    have e10 := HX10.out
                    subst e7 e8 e9 e10
                    have HR := hide (pm_of (HBY.out.drop 2) hpm).1
                    have HPR := hide hpr
                    obtain ⟨kk, hkk, hkb, hkr⟩ := E.rd.pos
                    have hkr := hkr r rfl
                    have hrl : r.length = n - kk := by rw [hkr, List.length_drop, hl]
                    obtain ⟨g0, g1, g2, _⟩ := hkb.three
                    clear hkr hkb hpm hpr
                    have HE := hide E
                    by_cases hr0 : r = []
                    · have hcm : ¬ (kk : Int) < (n : Int) := by rw [hr0] at hrl; simp at hrl; omega
                      have hpr := HPR.out
                      rw [if_neg (by simp [hr0])] at hpr
                      have HP3 := hide hpr
                      clear hpr HPR
                      obtain ⟨⟨⟨⟨⟨o1, o2⟩, o3⟩, o5⟩, o6⟩, o7⟩ := HAn.out
                      have MO : ModO wr10 (w.heap.size + 4) (⟨nm, tz, x7.map (fun B => B.2.2.2), dz, (m6 : Int), x8, x9, x10⟩ : PMod) a1 d1 a7 c7 x7 a3 d3 a8 c8 a9 c9 a10 c10 := ⟨o1, o2, rfl, o3, o5, o6, o7, fun k hk B hB e => by have h1 := HT1.out k hk; have h2 := (HB8.out B hB k e).1; omega, fun k hk e => by have h1 := HT8.out k hk; have h2 := HSR.out k e; omega, fun k hk B hB e => by have h1 := HSR.out k hk; have h2 := (HB8.out B hB k e).2; omega⟩
                      clear o1 o2 o3 o5 o6 o7 HAn HT1 HB8 HT8 HSR
                      obtain ⟨j0, j1, j2, j3, j4, j5, j6, j7⟩ := E.k2.eight'
                      have HMO := hide MO
                      obtain ⟨V, hV⟩ : ∃ V, V = mdoP (⟨nm, tz, x7.map (fun B => B.2.2.2), dz, (m6 : Int), x8, x9, x10⟩ : PMod) := ⟨_, rfl⟩
                      have hq : mdo nm tz.length tz x7.length x7 dz.length (m6 : Int) x8.length x8 x9.length x9 x10.length x10 = V := MO.mdo.trans hV.symm
                      have hmr := mdo_range nm tz.length tz x7.length x7 dz.length (m6 : Int) x8.length x8 x9.length x9 x10.length x10
                      rw [hq] at hmr
                      have HMD : Hid (MD wr10 nm a1 tz.length d1 tz a7 x7.length c7 x7 a3 dz.length d3 dz (m6 : Int) a8 x8.length c8 x8 a9 x9.length c9 x9 a10 x10.length c10 x10) := hide (MO.md HR.out)
                      have HOK := hide (fun W (hb : Below wr10.heap.size wr10 W) => sModuleOk_any nm a1 tz.length d1 tz a7 x7.length c7 x7 a3 dz.length d3 dz (m6 : Int) a8 x8.length c8 x8 a9 x9.length c9 x9 a10 x10.length c10 x10 W (HMD.out.below hb))
                      rw [hq] at HOK
                      have HV := hide hV
                      clear hV MO E hq HR
                      go_wp2_with fail
                      refine (HOK.out wr10 (Below.refl _ _)).mono ?_
                      rintro e w11 ⟨rfl, hb11⟩
                      have HE1 := hide (HE.out.below hb11)
                      have HMO1 := hide (HMO.out.turn (S := fun _ => False) (turn_below hb11) (fun k hk => absurd hk id))
                      have HB11 := hide hb11
                      clear HE HMO hb11 j0 j1 j2 j3 j4 j5 j6 j7 g0 g1 g2
                      obtain ⟨j0, j1, j2, j3, j4, j5, j6, j7⟩ := HE1.out.k2.eight'
                      by_cases hz : V = 0
                      · have HP := hide (show prs2 zs = (0, some (⟨nm, tz, x7.map (fun B => B.2.2.2), dz, (m6 : Int), x8, x9, x10⟩ : PMod)) by rw [HP3.out, if_neg]; rw [← HV.out]; simp [hz])
                        subst hz
                        clear HP3 HOK
                        obtain ⟨p0, p1, p2, p3, p4, p5, p6, p7⟩ := z8_cells HE1.out.k0
                        obtain ⟨y0, y1, y2, y3, y4, y5, y6, y7⟩ := z8_frozen HE1.out.k0
                        go_wp2
                        exact mod_end HE1.out.be HE1.out.k0 HMO1.out _ HP.out _ rfl rfl
                      · have HP := hide (show prs2 zs = (10 + V, none) from HP3.out.trans (by rw [← HV.out, if_pos hz]))
                        have hz' : (V != 0) = true := by simp [hz]
                        have hw10 : IntKind.i64.wrap (10 + V) = 10 + V := wraps62 _ (by omega) (by omega)
                        clear HP3
                        obtain ⟨u0, u1, u2, u3, u4, u5, u6, u7⟩ := z8_cells HE1.out.k1
                        obtain ⟨p0, p1, p2, p3, p4, p5, p6, p7⟩ := z8_cells HE1.out.k0
                        obtain ⟨y0, y1, y2, y3, y4, y5, y6, y7⟩ := z8_frozen HE1.out.k0
                        go_wp2_with fail
                        go_region_law (first
                          | (go_simp; go_at_call 26; refine (HOK.out _ (by first | exact HB11.out | exact HB11.out.drew)).mono ?_; rintro e w12 ⟨rfl, hb12⟩; have HE2 := hide (show Ss w w12 b n cap zs (some r) _ from (by first | exact HE1.out.below hb12 | exact HE1.out.drew.below hb12)); obtain ⟨v0, v1, v2, v3, v4, v5, v6, v7⟩ := z8_cells HE2.out.k1; obtain ⟨q0, q1, q3, q4, q5, q6, q7, q8⟩ := z8_cells HE2.out.k0; obtain ⟨x0, x1, x2, x3, x4, x5, x6, x71⟩ := z8_frozen HE2.out.k0; obtain ⟨k0, k1, k2, k3, k4, k5, k6, k7⟩ := HE2.out.k2.eight'; clear hb12))
                        all_goals
                          go_wp2
                          exact none_end HE2.out.be HE2.out.k0 (10 + V) _ HP.out _ rfl rfl
                    · have hcm : (kk : Int) < (n : Int) := by have : r.length ≠ 0 := fun h => hr0 (List.length_eq_zero_iff.1 h); omega
                      have HP := hide (show prs2 zs = (3, none) by rw [HPR.out, if_pos hr0])
                      obtain ⟨u0, u1, u2, u3, u4, u5, u6, u7⟩ := z8_cells E.k1
                      obtain ⟨p0, p1, p2, p3, p4, p5, p6, p7⟩ := z8_cells E.k0
                      obtain ⟨y0, y1, y2, y3, y4, y5, y6, y7⟩ := z8_frozen E.k0
                      clear HPR E
                      go_wp2
                      exact none_end HE.out.be HE.out.k0 3 _ HP.out _ rfl rfl
end Go.Proofs.Ytngdgogjlpjjpad
