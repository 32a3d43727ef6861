import Derived.Test.YtngdgogjlpjjpacP12
import Derived.Test.YtngdgogjlpjjpacP31
namespace Go.Proofs.Ytngdgogjlpjjpac
open Go.RowKit
set_option linter.unusedVariables false
set_option linter.unusedSimpArgs false
set_option maxRecDepth 100000
abbrev MDm (W : World) (P : PMod) (M : Ma) : Prop := MD W P.nm M.a1 P.tz.length M.c1 P.tz M.a2 M.bl.length M.c2 M.bl M.a3 P.dz.length M.c3 P.dz P.bss M.a5 P.rz.length M.c5 P.rz M.a6 P.ss.length M.c6 P.ss M.a7 P.es.length M.c7 P.es
set_option maxHeartbeats 8000000 in
theorem SameModule_same (P : PMod) (M N : Ma) (w : World) (h : MDm w P M) (h' : MDm w P N) (hb : M.bl.map (fun B => B.2.2.2) = P.bl) (hb' : N.bl.map (fun B => B.2.2.2) = P.bl) (hl1 : M.bl.length ≤ 100) (hl2 : P.ss.length ≤ 100) (hl3 : P.es.length ≤ 100) :
    Calls Try.prog 31 #[.agg #[.string P.nm, .slice M.a1 P.tz.length M.c1, .slice M.a2 M.bl.length M.c2, .slice M.a3 P.dz.length M.c3, .int .i64 P.bss, .slice M.a5 P.rz.length M.c5, .slice M.a6 P.ss.length M.c6, .slice M.a7 P.es.length M.c7], .agg #[.string P.nm, .slice N.a1 P.tz.length N.c1, .slice N.a2 N.bl.length N.c2, .slice N.a3 P.dz.length N.c3, .int .i64 P.bss, .slice N.a5 P.rz.length N.c5, .slice N.a6 P.ss.length N.c6, .slice N.a7 P.es.length N.c7]] w fun e w' => e = .returned (.bool true) ∧ Below w.heap.size w w' := by
  obtain ⟨W0, hW0⟩ : ∃ W0, W0 = (w.alloc (.cells #[.string P.nm, .slice M.a1 P.tz.length M.c1, .slice M.a2 M.bl.length M.c2, .slice M.a3 P.dz.length M.c3, .int .i64 P.bss, .slice M.a5 P.rz.length M.c5, .slice M.a6 P.ss.length M.c6, .slice M.a7 P.es.length M.c7] 56)).alloc (.cells #[.string P.nm, .slice N.a1 P.tz.length N.c1, .slice N.a2 N.bl.length N.c2, .slice N.a3 P.dz.length N.c3, .int .i64 P.bss, .slice N.a5 P.rz.length N.c5, .slice N.a6 P.ss.length N.c6, .slice N.a7 P.es.length N.c7] 56) := ⟨_, rfl⟩
  have F0 : Below w.heap.size w W0 ∧ Blk W0 w.heap.size #[.string P.nm, .slice M.a1 P.tz.length M.c1, .slice M.a2 M.bl.length M.c2, .slice M.a3 P.dz.length M.c3, .int .i64 P.bss, .slice M.a5 P.rz.length M.c5, .slice M.a6 P.ss.length M.c6, .slice M.a7 P.es.length M.c7] 56 ∧ Blk W0 (w.heap.size + 1) #[.string P.nm, .slice N.a1 P.tz.length N.c1, .slice N.a2 N.bl.length N.c2, .slice N.a3 P.dz.length N.c3, .int .i64 P.bss, .slice N.a5 P.rz.length N.c5, .slice N.a6 P.ss.length N.c6, .slice N.a7 P.es.length N.c7] 56 := by
    rw [hW0]
    refine ⟨((Below.refl _ _).alloc (Nat.le_refl _) _).alloc (by simp) _, (Blk.new w _ _).alloc _, ?_⟩
    have k2 := Blk.new (w.alloc (.cells #[.string P.nm, .slice M.a1 P.tz.length M.c1, .slice M.a2 M.bl.length M.c2, .slice M.a3 P.dz.length M.c3, .int .i64 P.bss, .slice M.a5 P.rz.length M.c5, .slice M.a6 P.ss.length M.c6, .slice M.a7 P.es.length M.c7] 56)) #[.string P.nm, .slice N.a1 P.tz.length N.c1, .slice N.a2 N.bl.length N.c2, .slice N.a3 P.dz.length N.c3, .int .i64 P.bss, .slice N.a5 P.rz.length N.c5, .slice N.a6 P.ss.length N.c6, .slice N.a7 P.es.length N.c7] 56
    simpa only [World.size_alloc] using k2
  have hNl : N.bl.length = M.bl.length := by have h1 := congrArg List.length hb; have h2 := congrArg List.length hb'; rw [List.length_map] at h1 h2; omega
  have HG := hide (fun (i : Nat) => show (M.bl.getD i zB).2.2.2 = (N.bl.getD i zB).2.2.2 by
    have e1 : (M.bl.map (fun B => B.2.2.2))[i]? = (N.bl.map (fun B => B.2.2.2))[i]? := by rw [hb, hb']
    rw [List.getElem?_map, List.getElem?_map] at e1
    rw [List.getD_eq_getElem?_getD, List.getD_eq_getElem?_getD]
    cases e2 : M.bl[i]? <;> cases e3 : N.bl[i]? <;> rw [e2, e3] at e1 <;> simp at e1 ⊢
    exact e1)
  have HNL := hide hNl
  have HF0 := hide F0
  obtain ⟨B0, K0, K1⟩ := F0
  -- what stays true in every later world
  have HK := hide (fun (X : World) (b : Below W0.heap.size W0 X) => And.intro (K0.below b) (K1.below b))
  have HH := hide (fun (X : World) (b : Below W0.heap.size W0 X) => And.intro (MD.below (MD.below h B0) b) (MD.below (MD.below h' B0) b))
  obtain ⟨a0, a1, a2, a3, a4, a5, a6, a7⟩ := K0.eight'
  obtain ⟨d0, d1, d2, d3, d4, d5, d6, d7⟩ := K1.eight'
  have hB0 := hide B0
  rw [hW0] at a0 a1 a2 a3 a4 a5 a6 a7 d0 d1 d2 d3 d4 d5 d6 d7
  have HW0 := hide hW0
  clear K0 K1 B0 h h' hb hb' HF0 hNl hW0
  go_enter Try.func31, Try.ntmps31
  go_wp2_with fail
  rw [← HW0.out]
  have H0 := HH.out W0 (Below.refl _ _)
  refine (sameNums_any M.a1 N.a1 P.tz.length M.c1 P.tz.length N.c1 P.tz P.tz W0 H0.1.t H0.2.t).mono ?_
  rintro e w1 ⟨he, hb1⟩
  rw [decide_eq_true rfl] at he
  subst he
  clear H0 a0 a1 a2 a3 a4 a5 a6 a7 d0 d1 d2 d3 d4 d5 d6 d7
  obtain ⟨K0, K1⟩ := HK.out w1 hb1
  obtain ⟨a0, a1, a2, a3, a4, a5, a6, a7⟩ := K0.eight'
  obtain ⟨d0, d1, d2, d3, d4, d5, d6, d7⟩ := K1.eight'
  clear K0 K1
  go_wp2_with fail
  have H1 := HH.out w1 hb1
  refine (sameNums_any M.a5 N.a5 P.rz.length M.c5 P.rz.length N.c5 P.rz P.rz w1 H1.1.r H1.2.r).mono ?_
  rintro e w2 ⟨he, hb2'⟩
  rw [decide_eq_true rfl] at he
  subst he
  have hb2 := hb1.trans (hb2'.mono hb1.size)
  clear H1 hb2' hb1
  clear a0 a1 a2 a3 a4 a5 a6 a7 d0 d1 d2 d3 d4 d5 d6 d7
  obtain ⟨K0, K1⟩ := HK.out w2 hb2
  obtain ⟨a0, a1, a2, a3, a4, a5, a6, a7⟩ := K0.eight'
  obtain ⟨d0, d1, d2, d3, d4, d5, d6, d7⟩ := K1.eight'
  clear K0 K1
  go_wp2_with fail
  have H1 := HH.out w2 hb2
  refine (l7Bytes_any M.a3 N.a3 P.dz.length M.c3 P.dz.length N.c3 P.dz P.dz w2 H1.1.d H1.2.d).mono ?_
  rintro e w3 ⟨he, hb3'⟩
  rw [decide_eq_true rfl] at he
  subst he
  have hb3 := hb2.trans (hb3'.mono hb2.size)
  clear H1 hb3' hb2
  clear a0 a1 a2 a3 a4 a5 a6 a7 d0 d1 d2 d3 d4 d5 d6 d7
  obtain ⟨K0, K1⟩ := HK.out w3 hb3
  obtain ⟨a0, a1, a2, a3, a4, a5, a6, a7⟩ := K0.eight'
  obtain ⟨d0, d1, d2, d3, d4, d5, d6, d7⟩ := K1.eight'
  clear K0 K1
  rw [HNL.out] at d2
  have HB3 := hide hb3
  clear hb3
  go_wp2
  go_loopw [5] (fun i wr => ∃ j : Nat, j ≤ M.bl.length ∧ i = .int .i64 j ∧ Below W0.heap.size W0 wr) (fun i _ => M.bl.length - (intOf i).toNat)
  case atStart => exact ⟨0, Nat.zero_le _, rfl, HB3.out⟩
  case round =>
    obtain ⟨j, hj, rfl, hb⟩ := hrel
    generalize wr = wr1 at *
    clear a0 a1 a2 a3 a4 a5 a6 a7 d0 d1 d2 d3 d4 d5 d6 d7
    obtain ⟨K0, K1⟩ := HK.out wr1 hb
    obtain ⟨a0, a1, a2, a3, a4, a5, a6, a7⟩ := K0.eight'
    obtain ⟨d0, d1, d2, d3, d4, d5, d6, d7⟩ := K1.eight'
    clear K0 K1
    rw [HNL.out] at d2
    have HB := hide hb
    have H := HH.out wr1 hb
    clear hb HB3
    by_cases hlt : j < M.bl.length
    · have hlt' : (j : Int) < (M.bl.length : Int) := by omega
      have b1 := H.1.b
      have b2 := H.2.b
      rw [HNL.out] at b2
      obtain ⟨x1, o1, e1⟩ := b1.addr (by omega)
      obtain ⟨x2, o2, e2⟩ := b2.addr (by omega)
      rw [e1] at b1 a2
      rw [e2] at b2 d2
      have c1 := b1.at j hlt
      have c2 := b2.at j hlt
      have HI1 := hide (b1.2.2.2.1 j hlt)
      have HI2 := hide (b2.2.2.2.1 j hlt)
      have hg := HG.out j
      have HGJ := hide hg
      clear H b1 b2 e1 e2 hg
      generalize M.bl.getD j zB = X1 at *
      generalize N.bl.getD j zB = X2 at *
      obtain ⟨q1, m1, r1, l1⟩ := X1
      obtain ⟨q2, m2, r2, l2⟩ := X2
      dsimp only at c1 c2 HI1 HI2 HGJ
      go_wp2_with fail
      go_region_law (first
        | (go_simp; go_at_call 92; refine (sameNums_any _ _ _ _ _ _ _ _ _ (by first | exact HI1.out | exact HI1.out.below (Below.refl _ _).drew) (by first | exact HI2.out | exact HI2.out.below (Below.refl _ _).drew)).mono ?_; rintro e wa ⟨he, hba⟩; rw [HGJ.out, decide_eq_true rfl] at he; subst he))
      all_goals
        have HBA := hide (show Below W0.heap.size W0 wa from (by first | exact HB.out.trans (hba.mono HB.out.size) | exact HB.out.drew.trans (hba.mono HB.out.size)))
        clear hba HB c1 c2 HI1 HI2
        go_wp2
        go_roundw
        case rel => exact ⟨j + 1, by omega, by go_num, HBA.out⟩
        case measure => simp [intOf]; omega
    · have hlt' : ¬ (j : Int) < (M.bl.length : Int) := by omega
      clear H
      go_wp2
      go_loopw [6] (fun i wr => ∃ j : Nat, j ≤ P.ss.length ∧ i = .int .i64 j ∧ Below W0.heap.size W0 wr) (fun i _ => P.ss.length - (intOf i).toNat)
      case atStart => exact ⟨0, Nat.zero_le _, rfl, HB.out⟩
      case round =>
        obtain ⟨j2, hj2, rfl, hb⟩ := hrel
        generalize wr = wr2 at *
        clear a0 a1 a2 a3 a4 a5 a6 a7 d0 d1 d2 d3 d4 d5 d6 d7
        obtain ⟨K0, K1⟩ := HK.out wr2 hb
        obtain ⟨a0, a1, a2, a3, a4, a5, a6, a7⟩ := K0.eight'
        obtain ⟨d0, d1, d2, d3, d4, d5, d6, d7⟩ := K1.eight'
        clear K0 K1
        have H := HH.out wr2 hb
        have HBa := hide hb
        clear hb HB
        by_cases hlt : j2 < P.ss.length
        · have hlt' : (j2 : Int) < (P.ss.length : Int) := by omega
          have b1 := H.1.i
          have b2 := H.2.i
          obtain ⟨x1, o1, e1⟩ := b1.addr (by omega)
          obtain ⟨x2, o2, e2⟩ := b2.addr (by omega)
          rw [e1] at b1 a6
          rw [e2] at b2 d6
          have c1 := b1.at j2 hlt
          have c2 := b2.at j2 hlt
          clear H b1 b2 e1 e2
          generalize P.ss.getD j2 zS = sx at *
          go_wp2_with fail
          go_region_law (fail)
          all_goals
            have HBA := hide (show Below W0.heap.size W0 wr2.drew from HBa.out.drew)
            go_wp2
            go_roundw
            case rel => exact ⟨j2 + 1, by omega, by go_num, (by first | exact HBa.out | exact HBA.out)⟩
            case measure => simp [intOf]; omega
        · have hlt' : ¬ (j2 : Int) < (P.ss.length : Int) := by omega
          clear H
          go_wp2
          go_loopw [7] (fun i wr => ∃ j : Nat, j ≤ P.es.length ∧ i = .int .i64 j ∧ Below W0.heap.size W0 wr) (fun i _ => P.es.length - (intOf i).toNat)
          case atStart => exact ⟨0, Nat.zero_le _, rfl, HBa.out⟩
          case round =>
            obtain ⟨j3, hj3, rfl, hb⟩ := hrel
            generalize wr = wr3 at *
            clear a0 a1 a2 a3 a4 a5 a6 a7 d0 d1 d2 d3 d4 d5 d6 d7
            obtain ⟨K0, K1⟩ := HK.out wr3 hb
            obtain ⟨a0, a1, a2, a3, a4, a5, a6, a7⟩ := K0.eight'
            obtain ⟨d0, d1, d2, d3, d4, d5, d6, d7⟩ := K1.eight'
            clear K0 K1
            have H := HH.out wr3 hb
            have HBb := hide hb
            clear hb HBa
            by_cases hlt : j3 < P.es.length
            · have hlt' : (j3 : Int) < (P.es.length : Int) := by omega
              have b1 := H.1.e
              have b2 := H.2.e
              obtain ⟨x1, o1, e1⟩ := b1.addr (by omega)
              obtain ⟨x2, o2, e2⟩ := b2.addr (by omega)
              rw [e1] at b1 a7
              rw [e2] at b2 d7
              obtain ⟨c1, c2, c3⟩ := b1.at j3 hlt
              obtain ⟨c4, c5, c6⟩ := b2.at j3 hlt
              clear H b1 b2 e1 e2
              generalize P.es.getD j3 zE = X at *
              obtain ⟨s1, s2, s3⟩ := X
              dsimp only at c1 c2 c3 c4 c5 c6
              go_wp2_with fail
              go_region_law (fail)
              all_goals
                have HBA := hide (show Below W0.heap.size W0 wr3.drew from HBb.out.drew)
                go_wp2
                go_roundw
                case rel => exact ⟨j3 + 1, by omega, by go_num, (by first | exact HBb.out | exact HBA.out)⟩
                case measure => simp [intOf]; omega
            · have hlt' : ¬ (j3 : Int) < (P.es.length : Int) := by omega
              clear H
              go_wp2
              go_ret
              exact ⟨rfl, hB0.out.trans (HBb.out.mono hB0.out.size)⟩
end Go.Proofs.Ytngdgogjlpjjpac
