import Derived.Test.YtngdgogjlpjjpadGreatK38
namespace Go.Proofs.YtngdgogjlpjjpadGreat
open Go.RowKit
set_option linter.unusedVariables false
set_option linter.unusedSimpArgs false
set_option maxRecDepth 100000

set_option maxHeartbeats 4000000 in
theorem sStep_e1 (pc : Int) (cb co cc : Nat) (zs : List Int) (b1 o1 b2 o2 b3 o3 n1 c1 n2 c2 n3 c3 : Nat) (x1 x2 x3 : List Int) (ra : Option Addr) (rn rc : Nat) (rs : List Rg) (w : World) (hc : IS w (some ⟨cb, co, none⟩) 8 cc zs) (h1 : BS w (some ⟨b1, o1, none⟩) n1 c1 x1) (h2 : BS w (some ⟨b2, o2, none⟩) n2 c2 x2) (h3 : BS w (some ⟨b3, o3, none⟩) n3 c3 x3) (hrs : RS w ra rn rc rs) (hn : n1 + n2 + n3 ≤ 1048576) (hgood : (cok pc 8 zs && mok n1 n2 n3) = true) (hf0 : fet pc n1 n2 n3 x1 x2 rs rn = 0) (hop : (rd n1 n2 n3 x1 x2 pc 4).1 / 67108864 = 1) :
    Calls Tryz.prog 20 #[.agg #[.int .i64 pc, .slice (some ⟨cb, co, none⟩) 8 cc], .agg #[.slice (some ⟨b1, o1, none⟩) n1 c1, .slice (some ⟨b2, o2, none⟩) n2 c2, .slice (some ⟨b3, o3, none⟩) n3 c3], .slice ra rn rc] w (StPost w (stp pc zs n1 n2 n3 x1 x2 x3 rs rn)) := by
  have hok : cok pc 8 zs = true ∧ mok n1 n2 n3 = true := by simpa using hgood
  obtain ⟨p0, p1, _, hzr⟩ := cok_parts hok.1
  have HC := hide (fun w h => l3CoreOk_any pc (some ⟨cb, co, none⟩) 8 cc zs w h)
  have HM := hide (fun w => sMemOk_any (some ⟨b1, o1, none⟩) (some ⟨b2, o2, none⟩) (some ⟨b3, o3, none⟩) n1 c1 n2 c2 n3 c3 w)
  rw [hok.1] at HC
  rw [hok.2] at HM
  clear hok hgood
  have HAL := hide (fun w h => sAllowed_any ra rn rc rs pc 4 3 w h ⟨by omega, by omega⟩)
  have HRD := hide (fun w h1 h2 => sRead_any (some ⟨b1, o1, none⟩) (some ⟨b2, o2, none⟩) (some ⟨b3, o3, none⟩) n1 c1 n2 c2 n3 c3 x1 x2 x3 pc 4 w h1 h2 (by omega))
  have hc' := hc
  have h1' := h1
  have h2' := h2
  have h3' := h3
  have hrs' := hrs
  obtain ⟨r, hr⟩ : ∃ r, r = stp pc zs n1 n2 n3 x1 x2 x3 rs rn := ⟨_, rfl⟩
  rw [← hr]
  unfold stp fet at hr
  unfold fet at hf0
  generalize alw rs rn pc 4 3 = AL at *
  generalize rd n1 n2 n3 x1 x2 pc 4 = R at *
  obtain ⟨x, q⟩ := R
  dsimp only at hr HRD hf0
  have HR := hide hr
  have HF0 := hide hf0
  clear hf0
  clear hr
  have HD := hide (fun w => sDecode_any x w)
  obtain ⟨W, hW⟩ : ∃ W, W = ((((w.alloc (.cells #[.int .i64 pc, .slice (some ⟨cb, co, none⟩) 8 cc] 58)).alloc (.cells #[.slice (some ⟨b1, o1, none⟩) n1 c1, .slice (some ⟨b2, o2, none⟩) n2 c2, .slice (some ⟨b3, o3, none⟩) n3 c3] 38)).alloc (.cells #[.int .i64 0, .slice none 0 0] 58)).alloc (.cells #[.slice none 0 0, .slice none 0 0, .slice none 0 0] 38)) := ⟨_, rfl⟩
  have hB0 : Below w.heap.size w W := by rw [hW]; exact ((((Below.refl _ _).alloc (Nat.le_refl _) _).alloc (by simp) _).alloc (by simp; omega) _).alloc (by simp; omega) _
  have k0 : Blk W (w.heap.size) #[.int .i64 pc, .slice (some ⟨cb, co, none⟩) 8 cc] 58 := by
    rw [hW]
    have := (((Blk.new w #[.int .i64 pc, .slice (some ⟨cb, co, none⟩) 8 cc] 58).alloc (.cells #[.slice (some ⟨b1, o1, none⟩) n1 c1, .slice (some ⟨b2, o2, none⟩) n2 c2, .slice (some ⟨b3, o3, none⟩) n3 c3] 38)).alloc (.cells #[.int .i64 0, .slice none 0 0] 58)).alloc (.cells #[.slice none 0 0, .slice none 0 0, .slice none 0 0] 38)
    simpa only [World.size_alloc] using this
  have k1 : Blk W (w.heap.size + 1) #[.slice (some ⟨b1, o1, none⟩) n1 c1, .slice (some ⟨b2, o2, none⟩) n2 c2, .slice (some ⟨b3, o3, none⟩) n3 c3] 38 := by
    rw [hW]
    have := ((Blk.new (w.alloc (.cells #[.int .i64 pc, .slice (some ⟨cb, co, none⟩) 8 cc] 58)) #[.slice (some ⟨b1, o1, none⟩) n1 c1, .slice (some ⟨b2, o2, none⟩) n2 c2, .slice (some ⟨b3, o3, none⟩) n3 c3] 38).alloc (.cells #[.int .i64 0, .slice none 0 0] 58)).alloc (.cells #[.slice none 0 0, .slice none 0 0, .slice none 0 0] 38)
    simpa only [World.size_alloc] using this
  have k2 : Blk W (w.heap.size + 1 + 1) #[.int .i64 0, .slice none 0 0] 58 := by
    rw [hW]
    have := (Blk.new ((w.alloc (.cells #[.int .i64 pc, .slice (some ⟨cb, co, none⟩) 8 cc] 58)).alloc (.cells #[.slice (some ⟨b1, o1, none⟩) n1 c1, .slice (some ⟨b2, o2, none⟩) n2 c2, .slice (some ⟨b3, o3, none⟩) n3 c3] 38)) #[.int .i64 0, .slice none 0 0] 58).alloc (.cells #[.slice none 0 0, .slice none 0 0, .slice none 0 0] 38)
    simpa only [World.size_alloc] using this
  have k3 : Blk W (w.heap.size + 1 + 1 + 1) #[.slice none 0 0, .slice none 0 0, .slice none 0 0] 38 := by
    rw [hW]
    have := Blk.new (((w.alloc (.cells #[.int .i64 pc, .slice (some ⟨cb, co, none⟩) 8 cc] 58)).alloc (.cells #[.slice (some ⟨b1, o1, none⟩) n1 c1, .slice (some ⟨b2, o2, none⟩) n2 c2, .slice (some ⟨b3, o3, none⟩) n3 c3] 38)).alloc (.cells #[.int .i64 0, .slice none 0 0] 58)) #[.slice none 0 0, .slice none 0 0, .slice none 0 0] 38
    simpa only [World.size_alloc] using this
  have HLC := hide (fun w h => l3Core_any pc cb co 8 cc zs w h (by omega))
  have HL1 := hide (fun w h1 h2 h3 => l1Copy_some b1 o1 b2 o2 b3 o3 n1 c1 n2 c2 n3 c3 x1 x2 x3 w h1 h2 h3 hn)
  have hc0 := hc.below hB0
  have h10 := h1.below hB0
  have h20 := h2.below hB0
  have h30 := h3.below hB0
  have hr0 := hrs.below hB0
  clear hc h1 h2 h3 hrs
  obtain ⟨e1, e2, e3⟩ := k0.two'
  go_enter Tryz.func20, Tryz.ntmps20
  go_wp2_with fail
  rw [← hW]
  clear hW
  refine (HLC.out _ hc0).mono ?_
  rintro e w1 ⟨ca, cp, rfl, oC, hb1⟩
  have hA1 : Below W.heap.size W (w1.alloc (.cells #[.int .i64 pc, .slice ca 8 cp] 58)) := hb1.alloc hb1.size _
  have kA := Blk.new w1 #[.int .i64 pc, .slice ca 8 cp] 58
  have hlA := (k3.below hb1).lt
  obtain ⟨f1, f2, f3, f4⟩ := (k1.below hb1).three
  have lf1 := (k1.below hb1).lt
  clear e1 e2 e3
  go_wp2_with fail
  refine (HL1.out _ (h10.below hA1) (h20.below hA1) (h30.below hA1)).mono ?_
  rintro e w2 ⟨g1, d1, g2, d2, g3, d3, rfl, mM, hb2⟩
  have hA2 : Below (w1.alloc (.cells #[.int .i64 pc, .slice ca 8 cp] 58)).heap.size (w1.alloc (.cells #[.int .i64 pc, .slice ca 8 cp] 58)) (w2.alloc (.cells #[.slice (some ⟨g1, 0, none⟩) n1 d1, .slice (some ⟨g2, 0, none⟩) n2 d2, .slice (some ⟨g3, 0, none⟩) n3 d3] 38)) := hb2.alloc hb2.size _
  have bb := hA1.trans (hA2.mono hA1.size)
  have SS : Ss w (w2.alloc (.cells #[.slice (some ⟨g1, 0, none⟩) n1 d1, .slice (some ⟨g2, 0, none⟩) n2 d2, .slice (some ⟨g3, 0, none⟩) n3 d3] 38)) w1.heap.size w2.heap.size pc cb co 8 cc zs b1 o1 b2 o2 b3 o3 n1 c1 n2 c2 n3 c3 x1 x2 x3 ra rn rc rs pc (.slice ca 8 cp) zs (.slice (some ⟨g1, 0, none⟩) n1 d1) (.slice (some ⟨g2, 0, none⟩) n2 d2) (.slice (some ⟨g3, 0, none⟩) n3 d3) x1 x2 x3 :=
    ⟨hB0.trans (bb.mono hB0.size), k0.below bb, k1.below bb, k2.below bb, k3.below bb, kA.below hA2, Blk.new w2 _ _, hlA, (by have := hb2.size; simp at this; omega), ((oC.below ((Below.refl _ _).alloc (Nat.le_refl _) (.cells #[.int .i64 pc, .slice ca 8 cp] 58))).below hA2).mono hB0.size, own3_mono (own3_alloc mM _) (by have := hB0.size; have := hA1.size; omega), hc0.below bb, h10.below bb, h20.below bb, h30.below bb, hr0.below bb⟩
  have hs0 : w.heap.size < w2.heap.size := by have := hb2.size; simp at this; omega
  have lk0 := ((k0.below hA1).below hb2).lt
  obtain ⟨e1, e2, e3⟩ := ((k0.below hA1).below hb2).two'
  clear hB0 k0 k1 k2 k3 hc0 h10 h20 h30 hr0 oC hb1 hA1 kA hlA f1 f2 f3 f4 mM hb2 hA2 bb lf1
  have HK := hide (And.intro hc' (And.intro h1' (And.intro h2' (And.intro h3' hrs'))))
  clear hc' h1' h2' h3' hrs'
  obtain ⟨rb, rfl⟩ := oi_addr' SS.oc (by omega)
  go_wp2_with fail
  refine (HC.out _ SS.ic).mono ?_
  rintro e w3 ⟨rfl, hb3⟩
  replace SS := SS.step hb3
  clear hb3 e1 e2 e3 lk0
  obtain ⟨f1, f2, f3, f4⟩ := SS.k1.three
  go_wp2_with fail
  refine (HM.out _).mono ?_
  rintro e w4 ⟨rfl, hb4⟩
  replace SS := SS.step hb4
  clear hb4 f1 f2 f3 f4
  obtain ⟨e1, e2, e3⟩ := SS.k0.two'
  go_wp2_with fail
  refine (HAL.out _ SS.rs).mono ?_
  rintro e w5 ⟨rfl, hb5⟩
  replace SS := SS.step hb5
  clear hb5 e1 e2 e3
  cases AL
  · exact absurd HF0.out (by simp)
  · obtain ⟨e1, e2, e3⟩ := SS.k0.two'
    obtain ⟨f1, f2, f3, f4⟩ := SS.k1.three
    go_wp2_with fail
    refine (HRD.out _ SS.i1 SS.i2).mono ?_
    rintro e w6 ⟨rfl, hb6⟩
    replace SS := SS.step hb6
    clear hb6 e1 e2 e3 f1 f2 f3 f4
    by_cases hq : q = 0
    · subst hq
      go_wp2_with fail
      refine (HD.out _).mono ?_
      intro e w7 hd
      unfold DecPost at hd
      cases hdk : dOk x
      · exact absurd HF0.out (by simp [hdk])
      · rw [hdk, if_pos rfl] at hd
        have hop := dOk_op hdk
        have hr := HR.out
        simp only [hdk, reduceIte] at hr
        clear HR HD hdk
        have g1' : 0 ≤ x / 8388608 % 8 ∧ x / 8388608 % 8 < 8 := by omega
        have g2' : 0 ≤ x / 1048576 % 8 ∧ x / 1048576 % 8 < 8 := by omega
        have g3' : 0 ≤ x % 65536 ∧ x % 65536 ≤ 65535 := by omega
        generalize x / 67108864 = o at *
        generalize x / 8388608 % 8 = d at *
        generalize x / 1048576 % 8 = a at *
        generalize x % 65536 = i at *
        obtain ⟨op0, op1⟩ := hop
        obtain ⟨dd0, dd1⟩ := g1'
        obtain ⟨aa0, aa1⟩ := g2'
        obtain ⟨ii0, ii1⟩ := g3'
        obtain ⟨rfl, hb7⟩ := hd
        have kI := Blk.new w7 #[.int .i64 o, .int .i64 d, .int .i64 a, .int .i64 i] 124
        have hwI := SS.kB.lt
        have hI : w2.heap.size < w7.heap.size := by have := hb7.size; omega
        replace SS := SS.step (hb7.alloc hb7.size (.cells #[.int .i64 o, .int .i64 d, .int .i64 a, .int .i64 i] 124))
        clear hb7 hwI
        have HNX := hide (fun w => l1Word_any (pc + 4) w ⟨by omega, by omega⟩)
        obtain ⟨nx, hnx⟩ : ∃ nx, nx = (pc + 4) % 4294967296 := ⟨_, rfl⟩
        rw [← hnx] at HNX
        have nx0 : 0 ≤ nx := by omega
        have nx1 : nx ≤ 4294967295 := by omega
        have HEV := hide (fun w => l3Event_any o d a i nx w ii0 ii1 nx0 nx1)
        have HNE := hide hnx
        clear hnx
        obtain ⟨e1, e2, e3⟩ := SS.k0.two'
        have HRR := hide hr
        clear hr
        subst hop
        have hr := HRR.out
        rw [opr_else 1 d a i pc zs n1 n2 n3 x1 x2 x3 rs rn (by omega), ← HNE.out] at hr
        have hlz := SS.ic.1
        have hcb := World.block_lt_of_cell? w _ (HK.out.1.at d.toNat (by omega))
        dsimp only at hcb
        rw [show ev 1 i nx = (1, 0) from rfl] at HEV hr
        rw [show jmp 1 (zs.getD d.toNat 0) = false from by simp [jmp]] at hr
        simp only [Bool.false_eq_true, reduceIte] at hr
        subst hr
        obtain ⟨e1, e2, e3⟩ := SS.k0.two'
        go_wp2_with fail
        refine (HNX.out _).mono ?_
        rintro e w8 ⟨rfl, rfl⟩
        obtain ⟨j1, j2, j3, j4, j5⟩ := kI.four'
        go_wp2_with fail
        refine (HEV.out _).mono ?_
        rintro e w9 ⟨rfl, hb9⟩
        replace SS := SS.step hb9
        replace kI := kI.below hb9
        clear hb9 e1 e2 e3 j1 j2 j3 j4 j5
        obtain ⟨j1, j2, j3, j4, j5⟩ := kI.four'
        have cd := SS.ic.at d.toNat (by omega)
        obtain ⟨u1, u2, u3⟩ := SS.kA.two'
        obtain ⟨e1, e2, e3⟩ := SS.k0.two'
        generalize zs.getD d.toNat 0 = zd at *
        go_wp2_with fail
        go_quiet (fail)
        all_goals
          clear u1 u2 u3
          replace SS := SS.step (below_drewN (Below.refl w9.heap.size w9) nq)
          obtain ⟨u1, u2, u3⟩ := SS.kA.two'
          have SZ := SS.setpc HK.out.1 HK.out.2.1 HK.out.2.2.1 HK.out.2.2.2.1 HK.out.2.2.2.2 nx
          clear SS e1 e2 e3 j1 j2 j3 j4 j5 cd
          obtain ⟨X, hX⟩ : ∃ X, X = (w9.drewN nq).setCell ⟨w1.heap.size, 0, none⟩ (.int .i64 nx) := ⟨_, rfl⟩
          rw [← hX] at SZ
          go_wp2_with fail
          rw [← hX]
          clear hX u1 u2 u3
          have lkA := SZ.kA.lt
          have hAs := SZ.hA
          have hABs := SZ.hAB
          have nA2 : w1.heap.size ≠ w.heap.size + 1 + 1 := by omega
          have nA3 : w1.heap.size ≠ w.heap.size + 1 + 1 + 1 := by omega
          have nB2 : w2.heap.size ≠ w.heap.size + 1 + 1 := by omega
          have nB3 : w2.heap.size ≠ w.heap.size + 1 + 1 + 1 := by omega
          have nA2' := nA2.symm
          have nA3' := nA3.symm
          have nB2' := nB2.symm
          have nB3' := nB3.symm
          obtain ⟨fA, ya0, ya1, ya2, ya3, ya4⟩ := st_find (pc := nx) SZ.oc SZ.om SZ.k2 SZ.k3 SZ.below (Nat.le_refl _) (by omega) (Or.inl rfl)
          obtain ⟨fB, yb0, yb1, yb2, yb3, yb4⟩ := st_find (pc := nx) SZ.oc SZ.om SZ.k2 SZ.k3 SZ.below (Nat.le_refl _) (by omega) (Or.inr rfl)
          simp only [setC, setM] at fA ya0 ya1 ya2 ya3 ya4 fB yb0 yb1 yb2 yb3 yb4
          have FA := hide fA
          have FB := hide fB
          obtain ⟨t1, t2, t3⟩ := SZ.kA.two'
          obtain ⟨s1, s2, s3, s4⟩ := SZ.kB.three
          obtain ⟨z1, z2, z3⟩ := SZ.k2.two'
          obtain ⟨z4, z5, z6, z7⟩ := SZ.k3.three
          clear fA fB SZ
          go_region
          all_goals
            go_wp2
            exact bodyPost_ret (v := .tuple #[.agg #[.int .i64 nx, .slice (some ⟨rb, 0, none⟩) 8 cp], .agg #[.slice (some ⟨g1, 0, none⟩) n1 d1, .slice (some ⟨g2, 0, none⟩) n2 d2, .slice (some ⟨g3, 0, none⟩) n3 d3], .int .i64 1, .int .i64 0]) (by first | (simp [results, Tryz.results20, go_sem, ya0, ya1, ya2, ya3, ya4]; done) | (simp [results, Tryz.results20, go_sem, yb0, yb1, yb2, yb3, yb4]; done)) rfl
              ⟨_, _, _, _, _, _, _, _, _, _, _, _, rfl, by first | exact FA.out.1 | exact FB.out.1, by first | exact FA.out.2.1 | exact FB.out.2.1, by first | exact FA.out.2.2 | exact FB.out.2.2⟩
    · exact absurd HF0.out (by simp [hq])
end Go.Proofs.YtngdgogjlpjjpadGreat
