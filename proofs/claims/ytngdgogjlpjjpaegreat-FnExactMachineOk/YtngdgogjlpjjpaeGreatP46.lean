import Derived.Test.YtngdgogjlpjjpaeGreatP04
import Derived.Test.YtngdgogjlpjjpaeGreatP07
import Derived.Test.YtngdgogjlpjjpaeGreatP14
import Derived.Test.YtngdgogjlpjjpaeGreatP38
namespace Go.Proofs.YtngdgogjlpjjpaeGreat
open Go.RowKit Classical
set_option linter.unusedVariables false
set_option linter.unusedSimpArgs false
set_option maxRecDepth 100000
set_option maxHeartbeats 1000000 in
theorem frameTarget_any (x0 x1 x2 x3 : Int) (w : World) :
    Calls Tryz.prog 242 #[.agg #[.int .i64 x0, .int .i64 x1, .int .i64 x2, .int .i64 x3]] w fun e w' => e = .returned (.agg #[.int .i64 x0, .int .i64 x1, .int .i64 x2]) ∧ Below w.heap.size w w' := by
  go_enter Tryz.func242, Tryz.ntmps242
  go_wp2
  refine bodyPost_ret (v := .agg #[.int .i64 x0, .int .i64 x1, .int .i64 x2]) (by simp [results, Tryz.results242, go_sem]) rfl ⟨rfl, ?_⟩
  exact ((Below.refl _ _).alloc (Nat.le_refl _) _).alloc (by simp) _
set_option maxHeartbeats 8000000 in
theorem shadowOk_any (M : Mn) (w : World) (h : MnD w M) :
    Calls Tryz.prog 175 #[.agg #[.slice M.ma M.mn M.mc, .int .i64 M.cs, .int .i64 M.cw, .int .i64 M.ck, .int .i64 M.cd, .int .i64 M.pc, .slice M.ka M.kn M.kc, .slice M.fa M.fn M.fc, .slice M.ra M.rn M.rc, .slice M.oa M.on M.oc, .int .i64 M.md, .int .i64 M.bk, .slice M.la M.ln M.lc, .slice M.ha M.hn M.hc, .int .i64 M.tn]] w (Yn (frsOk (pmS M.ms) M.cd M.hz) w) := by
  obtain ⟨V, hV⟩ : ∃ V, V = w.alloc (.cells #[.slice M.ma M.mn M.mc, .int .i64 M.cs, .int .i64 M.cw, .int .i64 M.ck, .int .i64 M.cd, .int .i64 M.pc, .slice M.ka M.kn M.kc, .slice M.fa M.fn M.fc, .slice M.ra M.rn M.rc, .slice M.oa M.on M.oc, .int .i64 M.md, .int .i64 M.bk, .slice M.la M.ln M.lc, .slice M.ha M.hn M.hc, .int .i64 M.tn] 54) := ⟨_, rfl⟩
  have bV : Below w.heap.size w V := by rw [hV]; exact (Below.refl _ _).alloc (Nat.le_refl _) _
  have kV : Blk V w.heap.size #[.slice M.ma M.mn M.mc, .int .i64 M.cs, .int .i64 M.cw, .int .i64 M.ck, .int .i64 M.cd, .int .i64 M.pc, .slice M.ka M.kn M.kc, .slice M.fa M.fn M.fc, .slice M.ra M.rn M.rc, .slice M.oa M.on M.oc, .int .i64 M.md, .int .i64 M.bk, .slice M.la M.ln M.lc, .slice M.ha M.hn M.hc, .int .i64 M.tn] 54 := by rw [hV]; exact Blk.new _ _ _
  have hl := h.h.1
  have hmx := h.h.2.1
  unfold maxLen at hmx
  have HDh := hide (h.h.below bV)
  have HDm := hide (h.m.below bV)
  have HV := hide hV
  have HK := hide (And.intro bV kV)
  have HC := hide (fun (X : World) (hX : Below V.heap.size V X) => show X.cell? ⟨w.heap.size, 0, none⟩ = some (.slice M.ma M.mn M.mc) ∧ X.cell? ⟨w.heap.size, 4, none⟩ = some (.int .i64 M.cd) ∧ X.cell? ⟨w.heap.size, 13, none⟩ = some (.slice M.ha M.hn M.hc) from ⟨(kV.below hX).cell 0, (kV.below hX).cell 4, (kV.below hX).cell 13⟩)
  clear hV kV bV h
  generalize M.ha = hA at *
  obtain ⟨y0, y4, y13⟩ := HC.out V (Below.refl _ _)
  by_cases c0 : M.cd < (M.hn : Int)
  · have HN := hide (show ¬ frsOk (pmS M.ms) M.cd M.hz from fun f => by have := f.1; omega)
    go_enter Tryz.func175, Tryz.ntmps175
    go_wp2_with (rw [← HV.out])
    go_ret
    exact yn_f HN.out (HK.out.1)
  have c0' : (M.hn : Int) ≤ M.cd := by omega
  have HRE := hide (Below.refl V.heap.size V)
  go_enter Tryz.func175, Tryz.ntmps175
  go_wp2_with (rw [← HV.out])
  clear y0 y4 y13
  go_loopw [15] (fun i wr => ∃ k : Nat, k ≤ M.hn ∧ i = .int .i64 k ∧ (∀ i, i < k → frk (pmS M.ms) (M.hz.getD i zFr)) ∧ Below V.heap.size V wr) (fun i _ => M.hn - (intOf i).toNat)
  case atStart => exact ⟨0, Nat.zero_le _, rfl, fun i hi => absurd hi (by omega), HRE.out⟩
  case round =>
    obtain ⟨k, hk, rfl, hF, hB⟩ := hrel
    have HB := hide hB
    by_cases hlt : k < M.hn
    · have hlt' : (k : Int) < (M.hn : Int) := by omega
      obtain ⟨g, f, rfl, q0, q1, q2, q3⟩ := (HDh.out.below hB).at k hlt _ _ _ _ rfl
      have HNO := hide (fun (q : ¬ frk (pmS M.ms) (M.hz.getD k zFr)) => frs_no (cd := M.cd) (show k < M.hz.length by omega) q)
      have HST := hide (fun (q : frk (pmS M.ms) (M.hz.getD k zFr)) (i : Nat) (hi : i < k + 1) => show frk (pmS M.ms) (M.hz.getD i zFr) from by
        by_cases e : i = k
        · rw [e]; exact q
        · exact hF i (by omega))
      generalize M.hz.getD k zFr = x at *
      obtain ⟨x0, x1, x2, x3⟩ := x
      dsimp only at q0 q1 q2 q3
      obtain ⟨U, hU⟩ : ∃ U, U = wr.alloc (.cells #[.int .i64 x0, .int .i64 x1, .int .i64 x2, .int .i64 x3] 136) := ⟨_, rfl⟩
      have bU : Below wr.heap.size wr U := by rw [hU]; exact (Below.refl _ _).alloc (Nat.le_refl _) _
      have kU : Blk U wr.heap.size #[.int .i64 x0, .int .i64 x1, .int .i64 x2, .int .i64 x3] 136 := by rw [hU]; exact Blk.new _ _ _
      have BU := hB.trans (bU.mono hB.size)
      have HBU := hide BU
      have HU := hide hU
      have HMC := hide (fun (X : World) (hX : Below U.heap.size U X) => show X.cell? ⟨w.heap.size, 0, none⟩ = some (.slice M.ma M.mn M.mc) ∧ X.cell? ⟨wr.heap.size, 0, none⟩ = some (.int .i64 x0) ∧ X.cell? ⟨wr.heap.size, 1, none⟩ = some (.int .i64 x1) ∧ X.cell? ⟨wr.heap.size, 2, none⟩ = some (.int .i64 x2) ∧ X.cell? ⟨wr.heap.size, 3, none⟩ = some (.int .i64 x3) from ⟨(HC.out X (BU.trans (hX.mono BU.size))).1, (kU.below hX).cell 0, (kU.below hX).cell 1, (kU.below hX).cell 2, (kU.below hX).cell 3⟩)
      have HTG := hide (fun (X : World) (hX : Below U.heap.size U X) => (frameTarget_any x0 x1 x2 x3 X).mono (fun e w' he => show e = .returned (.agg #[.int .i64 x0, .int .i64 x1, .int .i64 x2]) ∧ Below U.heap.size U w' from ⟨he.1, hX.trans (he.2.mono hX.size)⟩))
      have HTO := hide (fun (X : World) (hX : Below U.heap.size U X) => (targetOk_any M.ma M.mn M.mc M.ms x0 x1 x2 X ((HDm.out.below BU).below hX)).mono (fun e w' he => show e = .returned (.bool (decide (tgk (pmS M.ms) x0 x1 x2))) ∧ Below U.heap.size U w' from ⟨he.1, hX.trans (he.2.mono hX.size)⟩))
      have HIW := hide (isWord_any x3)
      have HFK := hide (show frk (pmS M.ms) (x0, x1, x2, x3) ↔ tgk (pmS M.ms) x0 x1 x2 ∧ 0 ≤ x3 ∧ x3 ≤ 4294967295 from Iff.rfl)
      clear hB hF hU kU bU BU
      by_cases c1 : tgk (pmS M.ms) x0 x1 x2
      · rw [decide_eq_true c1] at HTO
        by_cases c2 : 0 ≤ x3 ∧ x3 ≤ 4294967295
        · rw [decide_eq_true c2] at HIW
          have HY := hide (HST.out (HFK.out.2 ⟨c1, c2⟩))
          clear c1 c2
          obtain ⟨p0, t0, t1, t2, t3⟩ := HMC.out U (Below.refl _ _)
          go_wp2_with (rw [← HU.out])
          first | (go_region_held3 (fun w' => w'.cell? ⟨w.heap.size, 0, none⟩ = some (.slice M.ma M.mn M.mc) ∧ w'.cell? ⟨wr.heap.size, 0, none⟩ = some (.int .i64 x0) ∧ w'.cell? ⟨wr.heap.size, 1, none⟩ = some (.int .i64 x1) ∧ w'.cell? ⟨wr.heap.size, 2, none⟩ = some (.int .i64 x2) ∧ w'.cell? ⟨wr.heap.size, 3, none⟩ = some (.int .i64 x3)) (go_keep)
            (first
              | (go_at_call 242; first
                  | with_reducible refine (HTG.out _ (Below.refl _ _)).mono ?_
                  | with_reducible refine (HTG.out _ (Below.refl _ _).drew).mono ?_
                 rintro e w1 ⟨rfl, hb1⟩
                 have HB1 := hide hb1
                 obtain ⟨r0, s0, s1, s2, s3⟩ := HMC.out w1 hb1
                 clear hb1)
              | (go_at_call 241; first
                  | with_reducible refine (HTO.out _ HB1.out).mono ?_
                  | with_reducible refine (HTO.out _ HB1.out.drew).mono ?_
                 rintro e w2 ⟨rfl, hb2⟩
                 have HB2 := hide hb2
                 obtain ⟨n0, m0, m1, m2, m3⟩ := HMC.out w2 hb2
                 clear hb2)
              | (go_at_call 233; refine (HIW.out _).mono ?_; rintro e w3 ⟨rfl, rfl⟩))) | fail
          have HE := hide (HBU.out.trans (HB2.out.mono HBU.out.size))
          clear p0 t0 t1 t2 t3 r0 s0 s1 s2 s3 n0 m0 m1 m2 m3 HTG HTO HMC HB1 HB2
          go_wp2
          go_roundw
          case rel => exact ⟨k + 1, by omega, by go_num, HY.out, HE.out⟩
          case measure => simp [intOf]; omega
        · rw [decide_eq_false c2] at HIW
          have HN := hide (HNO.out (fun f => c2 (HFK.out.1 f).2))
          clear c1 c2
          obtain ⟨p0, t0, t1, t2, t3⟩ := HMC.out U (Below.refl _ _)
          go_wp2_with (rw [← HU.out])
          first | (go_region_held3 (fun w' => w'.cell? ⟨w.heap.size, 0, none⟩ = some (.slice M.ma M.mn M.mc) ∧ w'.cell? ⟨wr.heap.size, 0, none⟩ = some (.int .i64 x0) ∧ w'.cell? ⟨wr.heap.size, 1, none⟩ = some (.int .i64 x1) ∧ w'.cell? ⟨wr.heap.size, 2, none⟩ = some (.int .i64 x2) ∧ w'.cell? ⟨wr.heap.size, 3, none⟩ = some (.int .i64 x3)) (go_keep)
            (first
              | (go_at_call 242; first
                  | with_reducible refine (HTG.out _ (Below.refl _ _)).mono ?_
                  | with_reducible refine (HTG.out _ (Below.refl _ _).drew).mono ?_
                 rintro e w1 ⟨rfl, hb1⟩
                 have HB1 := hide hb1
                 obtain ⟨r0, s0, s1, s2, s3⟩ := HMC.out w1 hb1
                 clear hb1)
              | (go_at_call 241; first
                  | with_reducible refine (HTO.out _ HB1.out).mono ?_
                  | with_reducible refine (HTO.out _ HB1.out.drew).mono ?_
                 rintro e w2 ⟨rfl, hb2⟩
                 have HB2 := hide hb2
                 obtain ⟨n0, m0, m1, m2, m3⟩ := HMC.out w2 hb2
                 clear hb2)
              | (go_at_call 233; refine (HIW.out _).mono ?_; rintro e w3 ⟨rfl, rfl⟩))) | fail
          have HE := hide (HBU.out.trans (HB2.out.mono HBU.out.size))
          clear p0 t0 t1 t2 t3 r0 s0 s1 s2 s3 n0 m0 m1 m2 m3 HTG HTO HMC HB1 HB2
          go_wp2
          go_ret
          exact yn_f HN.out (HK.out.1.trans (HE.out.mono HK.out.1.size))
      · rw [decide_eq_false c1] at HTO
        · have HN := hide (HNO.out (fun f => c1 (HFK.out.1 f).1))
          clear c1
          go_wp2_with (rw [← HU.out])
          refine wp_region_held_drew (S := (fun w' => w'.cell? ⟨w.heap.size, 0, none⟩ = some (.slice M.ma M.mn M.mc) ∧ w'.cell? ⟨wr.heap.size, 0, none⟩ = some (.int .i64 x0) ∧ w'.cell? ⟨wr.heap.size, 1, none⟩ = some (.int .i64 x1) ∧ w'.cell? ⟨wr.heap.size, 2, none⟩ = some (.int .i64 x2) ∧ w'.cell? ⟨wr.heap.size, 3, none⟩ = some (.int .i64 x3))) (by kernel_rfl) ?_ (fun hHeld => ?_)
          · exact HMC.out _ (Below.refl _ _).drew
          refine wpAnyH_take (i := 0) (v := ?_) rfl (by kernel_rfl) (by kernel_rfl) (by kernel_rfl) (fun _ _ _ h => h) (Or.inl ⟨by rfl, ?_⟩) (by assumption) ?_
          rotate_left
          · (intro w hSw; (try dsimp only at hSw); go_simp; try with_reducible rfl)
          try simp only [List.getElem_toArray, List.getElem_cons_succ, List.getElem_cons_zero, Act.put, List.setIfInBounds_toArray, List.set_cons_zero, List.set_cons_succ]
          refine wpAnyH_take (i := 1) (v := ?_) rfl (by kernel_rfl) (by kernel_rfl) (by kernel_rfl) (fun _ _ _ h => h) (Or.inl ⟨by rfl, ?_⟩) (by assumption) ?_
          rotate_left
          · (intro w hSw; (try dsimp only at hSw); go_simp; try with_reducible rfl)
          try simp only [List.getElem_toArray, List.getElem_cons_succ, List.getElem_cons_zero, Act.put, List.setIfInBounds_toArray, List.set_cons_zero, List.set_cons_succ]
          refine wpAnyH_take (i := 2) (v := ?_) rfl (by kernel_rfl) (by kernel_rfl) (by kernel_rfl) (fun _ _ _ h => h) (Or.inl ⟨by rfl, ?_⟩) (by assumption) ?_
          rotate_left
          · (intro w hSw; (try dsimp only at hSw); go_simp; try with_reducible rfl)
          try simp only [List.getElem_toArray, List.getElem_cons_succ, List.getElem_cons_zero, Act.put, List.setIfInBounds_toArray, List.set_cons_zero, List.set_cons_succ]
          refine wpAnyH_ready (rs := [3]) (by kernel_rfl) (by simp) (AllReadyH.cons rfl (fun K hK => ?_) AllReadyH.nil)
          go_simp
          refine (HTG.out _ (Below.refl _ _).drew).mono ?_
          rintro e w1 ⟨rfl, hb1⟩
          have HB1 := hide hb1
          clear hb1
          try go_wp2_with fail
          refine hK.out _ _ ?_ (fun hHeld => ?_)
          · exact HMC.out _ HB1.out
          clear hK K
          try simp only [List.getElem_toArray, List.getElem_cons_succ, List.getElem_cons_zero, Act.put, List.setIfInBounds_toArray, List.set_cons_zero, List.set_cons_succ]
          refine wpAnyH_ready (rs := [4]) (by kernel_rfl) (by simp) (AllReadyH.cons rfl (fun K hK => ?_) AllReadyH.nil)
          go_simp
          refine (HTO.out _ HB1.out).mono ?_
          rintro e w2 ⟨rfl, hb2⟩
          have HB2 := hide hb2
          clear hb2
          try go_wp2_with fail
          refine hK.out _ _ ?_ (fun hHeld => ?_)
          · exact HMC.out _ HB2.out
          clear hK K
          try simp only [List.getElem_toArray, List.getElem_cons_succ, List.getElem_cons_zero, Act.put, List.setIfInBounds_toArray, List.set_cons_zero, List.set_cons_succ]
          refine wpAnyH_take (i := 5) (v := ?_) rfl (by kernel_rfl) (by kernel_rfl) (by kernel_rfl) (fun _ _ _ h => h) (Or.inl ⟨by rfl, ?_⟩) (by assumption) ?_
          rotate_left
          · (intro w hSw; (try dsimp only at hSw); go_simp; try with_reducible rfl)
          try simp only [List.getElem_toArray, List.getElem_cons_succ, List.getElem_cons_zero, Act.put, List.setIfInBounds_toArray, List.set_cons_zero, List.set_cons_succ]
          refine wpAnyH_take (i := 6) (v := ?_) rfl (by kernel_rfl) (by kernel_rfl) (by kernel_rfl) (fun _ _ _ h => h) (Or.inl ⟨by rfl, ?_⟩) (by assumption) ?_
          rotate_left
          · (intro w hSw; (try dsimp only at hSw); go_simp; try with_reducible rfl)
          try simp only [List.getElem_toArray, List.getElem_cons_succ, List.getElem_cons_zero, Act.put, List.setIfInBounds_toArray, List.set_cons_zero, List.set_cons_succ]
          refine wpAnyH_take (i := 7) (v := undef) rfl (by kernel_rfl) (by kernel_rfl) (by kernel_rfl) (fun _ _ _ h => h) (Or.inr ⟨by rfl, rfl⟩) (by assumption) ?_
          try simp only [List.getElem_toArray, List.getElem_cons_succ, List.getElem_cons_zero, Act.put, List.setIfInBounds_toArray, List.set_cons_zero, List.set_cons_succ]
          refine wpAnyH_take (i := 8) (v := undef) rfl (by kernel_rfl) (by kernel_rfl) (by kernel_rfl) (fun _ _ _ h => h) (Or.inr ⟨by rfl, rfl⟩) (by assumption) ?_
          try simp only [List.getElem_toArray, List.getElem_cons_succ, List.getElem_cons_zero, Act.put, List.setIfInBounds_toArray, List.set_cons_zero, List.set_cons_succ]
          refine wpAnyH_take (i := 9) (v := undef) rfl (by kernel_rfl) (by kernel_rfl) (by kernel_rfl) (fun _ _ _ h => h) (Or.inr ⟨by rfl, rfl⟩) (by assumption) ?_
          try simp only [List.getElem_toArray, List.getElem_cons_succ, List.getElem_cons_zero, Act.put, List.setIfInBounds_toArray, List.set_cons_zero, List.set_cons_succ]
          refine wpAnyH_take (i := 10) (v := undef) rfl (by kernel_rfl) (by kernel_rfl) (by kernel_rfl) (fun _ _ _ h => h) (Or.inr ⟨by rfl, rfl⟩) (by assumption) ?_
          try simp only [List.getElem_toArray, List.getElem_cons_succ, List.getElem_cons_zero, Act.put, List.setIfInBounds_toArray, List.set_cons_zero, List.set_cons_succ]
          refine wpAnyH_take (i := 11) (v := ?_) rfl (by kernel_rfl) (by kernel_rfl) (by kernel_rfl) (fun _ _ _ h => h) (Or.inl ⟨by rfl, ?_⟩) (by assumption) ?_
          rotate_left
          · (intro w hSw; (try dsimp only at hSw); go_simp; try with_reducible rfl)
          try simp only [List.getElem_toArray, List.getElem_cons_succ, List.getElem_cons_zero, Act.put, List.setIfInBounds_toArray, List.set_cons_zero, List.set_cons_succ]
          refine wpAnyH_done (by kernel_rfl) ?_ _
          have HE := hide (HBU.out.trans (HB2.out.mono HBU.out.size))
          clear HTG HTO HMC HB1 HB2
          go_wp2
          go_ret
          exact yn_f HN.out (HK.out.1.trans (HE.out.mono HK.out.1.size))
    · have HY := hide (frs_yes hl c0' hlt hF)
      clear hB hF
      go_wp2
      go_ret
      exact yn_t HY.out (HK.out.1.trans (HB.out.mono HK.out.1.size))
set_option maxHeartbeats 1000000 in
theorem toSlot_any (x0 : Bool) (x1 x2 x3 : Int) (w : World) :
    Calls Tryz.prog 198 #[.agg #[.bool x0, .int .i64 x1, .int .i64 x2, .int .i64 x3]] w fun e w' => e = .returned (.agg #[.bool x0, .int .i64 x1, .int .i64 x2, .int .i64 x3]) ∧ Below w.heap.size w w' := by
  go_enter Tryz.func198, Tryz.ntmps198
  go_wp2
  refine bodyPost_ret (v := .agg #[.bool x0, .int .i64 x1, .int .i64 x2, .int .i64 x3]) (by simp [results, Tryz.results198, go_sem]) rfl ⟨rfl, ?_⟩
  exact ((((Below.refl _ _).alloc (Nat.le_refl _) _).alloc (by simp) _).alloc (by simp; omega) _)
set_option maxHeartbeats 2000000 in
theorem toSlotS_any (a : Option Addr) (n cap : Nat) (xs : List SlT) (w : World) (h : QS clSl zSl w a n cap xs) (hn : n ≤ 1048576) :
    Calls Tryz.prog 124 #[.slice a n cap] w fun e w' => e = .returned (.slice (some ⟨w.heap.size, 0, none⟩) n n) ∧ OG 134 4 clSl w' w.heap.size (.slice (some ⟨w.heap.size, 0, none⟩) n n) xs ∧ Below w.heap.size w w' := by
  obtain ⟨i0, hi, hz0, hz1, hz2⟩ := info_parts infoSl
  have hl := h.1
  go_enter Tryz.func124, Tryz.ntmps124
  go_wp2_with (at_make; refine wpList_make_full _ rfl _ _ 51 rfl w.heap.size 134 i0 (.agg #[.bool false, .int .i64 0, .int .i64 0, .int .i64 0]) 4 Tryz.underlying51 hi hz0 hz1 .i64 .i64 _ _ n rfl rfl rfl rfl (by rw [hz2]; omega) (by unfold maxLen; omega) (Nat.le_refl _) ?_; intro w1 hown hgr)
  have HR0 := hide (And.intro (rowF_made (f := clSl) zSl (.agg #[.bool false, .int .i64 0, .int .i64 0, .int .i64 0]) rfl rfl hown) (below_grown hgr))
  clear hown hgr hi hz0 hz1 hz2
  go_loopw [4] (fun i wr => ∃ (m : Nat) (F : Nat → SlT), m ≤ n ∧ i = .int .i64 m ∧ RowF 134 4 clSl wr w.heap.size n F ∧ (∀ i, i < m → F i = xs.getD i zSl) ∧ Below w.heap.size w wr) (fun i _ => n - (intOf i).toNat)
  case atStart => exact ⟨0, _, Nat.zero_le _, rfl, HR0.out.1, fun i hi => absurd hi (by omega), HR0.out.2⟩
  case round =>
    obtain ⟨m, F, hm, rfl, R, hF, hB⟩ := hrel
    clear HR0
    by_cases hlt : m < n
    · have hlt' : (m : Int) < (n : Int) := by omega
      obtain ⟨b, off, rfl, y0, y1, y2, y3⟩ := (h.below hB).at m hlt _ _ _ _ rfl
      have HFIN := hide (fun (W : World) (hW : Below wr.heap.size wr W) => show RowF 134 4 clSl ((((W.setCell ⟨w.heap.size, m * 4, none⟩ (.bool (xs.getD m zSl).1)).setCell ⟨w.heap.size, m * 4 + 1, none⟩ (.int .i64 (xs.getD m zSl).2.1)).setCell ⟨w.heap.size, m * 4 + 2, none⟩ (.int .i64 (xs.getD m zSl).2.2.1)).setCell ⟨w.heap.size, m * 4 + 3, none⟩ (.int .i64 (xs.getD m zSl).2.2.2)) w.heap.size n (fun i => if i = m then (xs.getD m zSl) else F i) ∧ Below w.heap.size w ((((W.setCell ⟨w.heap.size, m * 4, none⟩ (.bool (xs.getD m zSl).1)).setCell ⟨w.heap.size, m * 4 + 1, none⟩ (.int .i64 (xs.getD m zSl).2.1)).setCell ⟨w.heap.size, m * 4 + 2, none⟩ (.int .i64 (xs.getD m zSl).2.2.1)).setCell ⟨w.heap.size, m * 4 + 3, none⟩ (.int .i64 (xs.getD m zSl).2.2.2)) from
        ⟨(R.below hW).set4 m hlt _ _ _ _ _ rfl, ((((hB.trans (hW.mono hB.size)).setCell (p := ⟨w.heap.size, m * 4, none⟩) (Nat.le_refl _) _).setCell (p := ⟨w.heap.size, m * 4 + 1, none⟩) (Nat.le_refl _) _).setCell (p := ⟨w.heap.size, m * 4 + 2, none⟩) (Nat.le_refl _) _).setCell (p := ⟨w.heap.size, m * 4 + 3, none⟩) (Nat.le_refl _) _⟩)
      have HCE := hide (fun (W : World) (hW : Below wr.heap.size wr W) => show (∃ u, W.cell? ⟨w.heap.size, m * 4, none⟩ = some u) ∧ (∃ u, W.cell? ⟨w.heap.size, m * 4 + 1, none⟩ = some u) ∧ (∃ u, W.cell? ⟨w.heap.size, m * 4 + 2, none⟩ = some u) ∧ (∃ u, W.cell? ⟨w.heap.size, m * 4 + 3, none⟩ = some u) ∧ ∀ i, W.frozen? ⟨w.heap.size, i, none⟩ = false from
        ⟨⟨_, (R.below hW).cell clSl_len m 0 hlt (by omega) _ rfl⟩, ⟨_, (R.below hW).cell clSl_len m 1 hlt (by omega) _ rfl⟩, ⟨_, (R.below hW).cell clSl_len m 2 hlt (by omega) _ rfl⟩, ⟨_, (R.below hW).cell clSl_len m 3 hlt (by omega) _ rfl⟩, by obtain ⟨cs, hk⟩ := (R.below hW).blk; exact hk.frozen⟩)
      have HF2 := hide (show ∀ i, i < m + 1 → (if i = m then (xs.getD m zSl) else F i) = xs.getD i zSl from fun i hi => by
        by_cases e : i = m
        · rw [if_pos e, e]
        · rw [if_neg e]; exact hF i (by omega))
      clear R hB hF
      generalize xs.getD m zSl = x at *
      obtain ⟨x0, x1, x2, x3⟩ := x
      dsimp only at y0 y1 y2 y3
      go_wp2_with fail
      refine (toSlot_any x0 x1 x2 x3 _).mono ?_
      rintro e w2 ⟨rfl, hb2⟩
      obtain ⟨⟨u0, p0⟩, ⟨u1, p1⟩, ⟨u2, p2⟩, ⟨u3, p3⟩, pf⟩ := HCE.out w2 hb2
      have HX := hide (HFIN.out w2 hb2)
      clear HFIN HCE y0 y1 y2 y3 hb2
      go_wp2
      go_roundw
      case rel => exact ⟨m + 1, _, by omega, by go_num, HX.out.1, HF2.out, HX.out.2⟩
      case measure => simp [intOf]; omega
    · have e : Hid (m = n) := by show m = n; omega
      have HX := hide (And.intro R hB)
      clear R hB
      go_wp2
      go_ret
      exact ⟨rfl, HX.out.1.og clSl_len (by omega) (Nat.le_refl _) h.2.1 hl zSl (fun i hi => hF i (by rw [e.out]; exact hi)), HX.out.2⟩
set_option maxHeartbeats 1000000 in
theorem toFrame_any (x0 : Int) (x1 x2 x3 : Int) (w : World) :
    Calls Tryz.prog 199 #[.agg #[.int .i64 x0, .int .i64 x1, .int .i64 x2, .int .i64 x3]] w fun e w' => e = .returned (.agg #[.int .i64 x0, .int .i64 x1, .int .i64 x2, .int .i64 x3]) ∧ Below w.heap.size w w' := by
  go_enter Tryz.func199, Tryz.ntmps199
  go_wp2
  refine bodyPost_ret (v := .agg #[.int .i64 x0, .int .i64 x1, .int .i64 x2, .int .i64 x3]) (by simp [results, Tryz.results199, go_sem]) rfl ⟨rfl, ?_⟩
  exact ((((Below.refl _ _).alloc (Nat.le_refl _) _).alloc (by simp) _).alloc (by simp; omega) _)
set_option maxHeartbeats 2000000 in
theorem toFrameS_any (a : Option Addr) (n cap : Nat) (xs : List FrT) (w : World) (h : QS clFr zFr w a n cap xs) (hn : n ≤ 1048576) :
    Calls Tryz.prog 125 #[.slice a n cap] w fun e w' => e = .returned (.slice (some ⟨w.heap.size, 0, none⟩) n n) ∧ OG 136 4 clFr w' w.heap.size (.slice (some ⟨w.heap.size, 0, none⟩) n n) xs ∧ Below w.heap.size w w' := by
  obtain ⟨i0, hi, hz0, hz1, hz2⟩ := info_parts infoFr
  have hl := h.1
  go_enter Tryz.func125, Tryz.ntmps125
  go_wp2_with (at_make; refine wpList_make_full _ rfl _ _ 52 rfl w.heap.size 136 i0 (.agg #[.int .i64 0, .int .i64 0, .int .i64 0, .int .i64 0]) 4 Tryz.underlying52 hi hz0 hz1 .i64 .i64 _ _ n rfl rfl rfl rfl (by rw [hz2]; omega) (by unfold maxLen; omega) (Nat.le_refl _) ?_; intro w1 hown hgr)
  have HR0 := hide (And.intro (rowF_made (f := clFr) zFr (.agg #[.int .i64 0, .int .i64 0, .int .i64 0, .int .i64 0]) rfl rfl hown) (below_grown hgr))
  clear hown hgr hi hz0 hz1 hz2
  go_loopw [4] (fun i wr => ∃ (m : Nat) (F : Nat → FrT), m ≤ n ∧ i = .int .i64 m ∧ RowF 136 4 clFr wr w.heap.size n F ∧ (∀ i, i < m → F i = xs.getD i zFr) ∧ Below w.heap.size w wr) (fun i _ => n - (intOf i).toNat)
  case atStart => exact ⟨0, _, Nat.zero_le _, rfl, HR0.out.1, fun i hi => absurd hi (by omega), HR0.out.2⟩
  case round =>
    obtain ⟨m, F, hm, rfl, R, hF, hB⟩ := hrel
    clear HR0
    by_cases hlt : m < n
    · have hlt' : (m : Int) < (n : Int) := by omega
      obtain ⟨b, off, rfl, y0, y1, y2, y3⟩ := (h.below hB).at m hlt _ _ _ _ rfl
      have HFIN := hide (fun (W : World) (hW : Below wr.heap.size wr W) => show RowF 136 4 clFr ((((W.setCell ⟨w.heap.size, m * 4, none⟩ (.int .i64 (xs.getD m zFr).1)).setCell ⟨w.heap.size, m * 4 + 1, none⟩ (.int .i64 (xs.getD m zFr).2.1)).setCell ⟨w.heap.size, m * 4 + 2, none⟩ (.int .i64 (xs.getD m zFr).2.2.1)).setCell ⟨w.heap.size, m * 4 + 3, none⟩ (.int .i64 (xs.getD m zFr).2.2.2)) w.heap.size n (fun i => if i = m then (xs.getD m zFr) else F i) ∧ Below w.heap.size w ((((W.setCell ⟨w.heap.size, m * 4, none⟩ (.int .i64 (xs.getD m zFr).1)).setCell ⟨w.heap.size, m * 4 + 1, none⟩ (.int .i64 (xs.getD m zFr).2.1)).setCell ⟨w.heap.size, m * 4 + 2, none⟩ (.int .i64 (xs.getD m zFr).2.2.1)).setCell ⟨w.heap.size, m * 4 + 3, none⟩ (.int .i64 (xs.getD m zFr).2.2.2)) from
        ⟨(R.below hW).set4 m hlt _ _ _ _ _ rfl, ((((hB.trans (hW.mono hB.size)).setCell (p := ⟨w.heap.size, m * 4, none⟩) (Nat.le_refl _) _).setCell (p := ⟨w.heap.size, m * 4 + 1, none⟩) (Nat.le_refl _) _).setCell (p := ⟨w.heap.size, m * 4 + 2, none⟩) (Nat.le_refl _) _).setCell (p := ⟨w.heap.size, m * 4 + 3, none⟩) (Nat.le_refl _) _⟩)
      have HCE := hide (fun (W : World) (hW : Below wr.heap.size wr W) => show (∃ u, W.cell? ⟨w.heap.size, m * 4, none⟩ = some u) ∧ (∃ u, W.cell? ⟨w.heap.size, m * 4 + 1, none⟩ = some u) ∧ (∃ u, W.cell? ⟨w.heap.size, m * 4 + 2, none⟩ = some u) ∧ (∃ u, W.cell? ⟨w.heap.size, m * 4 + 3, none⟩ = some u) ∧ ∀ i, W.frozen? ⟨w.heap.size, i, none⟩ = false from
        ⟨⟨_, (R.below hW).cell clFr_len m 0 hlt (by omega) _ rfl⟩, ⟨_, (R.below hW).cell clFr_len m 1 hlt (by omega) _ rfl⟩, ⟨_, (R.below hW).cell clFr_len m 2 hlt (by omega) _ rfl⟩, ⟨_, (R.below hW).cell clFr_len m 3 hlt (by omega) _ rfl⟩, by obtain ⟨cs, hk⟩ := (R.below hW).blk; exact hk.frozen⟩)
      have HF2 := hide (show ∀ i, i < m + 1 → (if i = m then (xs.getD m zFr) else F i) = xs.getD i zFr from fun i hi => by
        by_cases e : i = m
        · rw [if_pos e, e]
        · rw [if_neg e]; exact hF i (by omega))
      clear R hB hF
      generalize xs.getD m zFr = x at *
      obtain ⟨x0, x1, x2, x3⟩ := x
      dsimp only at y0 y1 y2 y3
      go_wp2_with fail
      refine (toFrame_any x0 x1 x2 x3 _).mono ?_
      rintro e w2 ⟨rfl, hb2⟩
      obtain ⟨⟨u0, p0⟩, ⟨u1, p1⟩, ⟨u2, p2⟩, ⟨u3, p3⟩, pf⟩ := HCE.out w2 hb2
      have HX := hide (HFIN.out w2 hb2)
      clear HFIN HCE y0 y1 y2 y3 hb2
      go_wp2
      go_roundw
      case rel => exact ⟨m + 1, _, by omega, by go_num, HX.out.1, HF2.out, HX.out.2⟩
      case measure => simp [intOf]; omega
    · have e : Hid (m = n) := by show m = n; omega
      have HX := hide (And.intro R hB)
      clear R hB
      go_wp2
      go_ret
      exact ⟨rfl, HX.out.1.og clFr_len (by omega) (Nat.le_refl _) h.2.1 hl zFr (fun i hi => hF i (by rw [e.out]; exact hi)), HX.out.2⟩
end Go.Proofs.YtngdgogjlpjjpaeGreat
namespace Go.Proofs.YtngdgogjlpjjpaeGreat
open Go.RowKit Classical
set_option linter.unusedVariables false
set_option maxHeartbeats 1000000 in
theorem toMem_any (a1 a2 a3 : Option Addr) (n1 c1 n2 c2 n3 c3 : Nat) (x1 x2 x3 : List Int) (w : World) (h1 : BS w a1 n1 c1 x1) (h2 : BS w a2 n2 c2 x2) (h3 : BS w a3 n3 c3 x3) (hn : n1 + n2 + n3 ≤ 1048576) :
    Calls Tryz.prog 123 #[.agg #[.slice a1 n1 c1, .slice a2 n2 c2, .slice a3 n3 c3]] w fun e w' => ∃ g1 g2 g3, e = .returned (.agg #[.slice (some ⟨g1, 0, none⟩) n1 n1, .slice (some ⟨g2, 0, none⟩) n2 n2, .slice (some ⟨g3, 0, none⟩) n3 n3]) ∧
      w.heap.size ≤ g1 ∧ g1 < g2 ∧ g2 < g3 ∧ Row8 w' g1 x1 ∧ Row8 w' g2 x2 ∧ Row8 w' g3 x3 ∧ Below w.heap.size w w' := by
  go_enter Tryz.func123, Tryz.ntmps123
  go_wp2_with fail
  have hB0 : Below w.heap.size w (((w.alloc (.cells #[.slice a1 n1 c1, .slice a2 n2 c2, .slice a3 n3 c3] 84)).alloc (.cells #[.slice none 0 0, .slice none 0 0, .slice none 0 0] 50)).alloc (.cells #[.slice none 0 0, .slice none 0 0, .slice none 0 0] 50)) :=
    ((Below.refl _ _).alloc (Nat.le_refl _) _).alloc (by simp) _ |>.alloc (by simp; omega) _
  refine (toByteS_any a1 n1 c1 x1 _ (h1.below hB0) (by omega)).mono ?_
  rintro e w1 ⟨rfl, hr1, hb1⟩
  have kb1 := (((Blk.new w #[.slice a1 n1 c1, .slice a2 n2 c2, .slice a3 n3 c3] 84).alloc (.cells #[.slice none 0 0, .slice none 0 0, .slice none 0 0] 50)).alloc (.cells #[.slice none 0 0, .slice none 0 0, .slice none 0 0] 50)).below hb1
  have kr1 := ((Blk.new (w.alloc (.cells #[.slice a1 n1 c1, .slice a2 n2 c2, .slice a3 n3 c3] 84)) #[.slice none 0 0, .slice none 0 0, .slice none 0 0] 50).alloc (.cells #[.slice none 0 0, .slice none 0 0, .slice none 0 0] 50)).below hb1
  have ko1 := (Blk.new ((w.alloc (.cells #[.slice a1 n1 c1, .slice a2 n2 c2, .slice a3 n3 c3] 84)).alloc (.cells #[.slice none 0 0, .slice none 0 0, .slice none 0 0] 50)) #[.slice none 0 0, .slice none 0 0, .slice none 0 0] 50).below hb1
  have hB1 := hB0.trans (hb1.mono (by simp; omega))
  clear hb1 hB0
  simp only [World.size_alloc] at kb1 kr1 ko1 hr1
  obtain ⟨q1, q2, q3, q4⟩ := kb1.three
  obtain ⟨q5, q6, q7, q8⟩ := ko1.three
  go_wp2_with fail
  have hB1' := hB1.setCell (p := ⟨w.heap.size + 1 + 1, 0, none⟩) (by simp; omega) (.slice (some ⟨w.heap.size + 1 + 1 + 1, 0, none⟩) n1 n1)
  refine (toByteS_any a2 n2 c2 x2 _ (h2.below hB1') (by omega)).mono ?_
  rintro e w2 ⟨rfl, hr2, hb2⟩
  have kb2 := (kb1.other ⟨w.heap.size + 1 + 1, 0, none⟩ (.slice (some ⟨w.heap.size + 1 + 1 + 1, 0, none⟩) n1 n1) (by dsimp only; omega)).below hb2
  have kr2 := (kr1.other ⟨w.heap.size + 1 + 1, 0, none⟩ (.slice (some ⟨w.heap.size + 1 + 1 + 1, 0, none⟩) n1 n1) (by dsimp only; omega)).below hb2
  have ko2 := (ko1.set 0 (.slice (some ⟨w.heap.size + 1 + 1 + 1, 0, none⟩) n1 n1)).below hb2
  have hrx := hr1
  have hr1 := (hr1.other ⟨w.heap.size + 1 + 1, 0, none⟩ (.slice (some ⟨w.heap.size + 1 + 1 + 1, 0, none⟩) n1 n1) (by dsimp only; omega)).below hb2
  rw [size_setCell] at hr2 hb2
  have hz0 := (hrx.lt)
  have hz1 := (Row8.lt hr1)
  have hz01 : w1.heap.size < w2.heap.size := hr2.lt
  have hs1 := ko1.lt
  have hB2 := hB1'.trans (hb2.mono (by omega))
  clear hb2 hB1 hB1' q1 q2 q3 q4 q5 q6 q7 q8 kb1 kr1 ko1
  simp only [List.setIfInBounds_toArray, List.set_cons_zero] at ko2
  obtain ⟨q1, q2, q3, q4⟩ := kb2.three
  obtain ⟨q5, q6, q7, q8⟩ := ko2.three
  go_wp2_with fail
  have hB2' := hB2.setCell (p := ⟨w.heap.size + 1 + 1, 1, none⟩) (by simp; omega) (.slice (some ⟨w1.heap.size, 0, none⟩) n2 n2)
  refine (toByteS_any a3 n3 c3 x3 _ (h3.below hB2') (by omega)).mono ?_
  rintro e w3 ⟨rfl, hr3, hb3⟩
  have kr3 := (kr2.other ⟨w.heap.size + 1 + 1, 1, none⟩ (.slice (some ⟨w1.heap.size, 0, none⟩) n2 n2) (by dsimp only; omega)).below hb3
  have ko3 := (ko2.set 1 (.slice (some ⟨w1.heap.size, 0, none⟩) n2 n2)).below hb3
  have hr1 := (hr1.other ⟨w.heap.size + 1 + 1, 1, none⟩ (.slice (some ⟨w1.heap.size, 0, none⟩) n2 n2) (by dsimp only; omega)).below hb3
  have hr2 := (hr2.other ⟨w.heap.size + 1 + 1, 1, none⟩ (.slice (some ⟨w1.heap.size, 0, none⟩) n2 n2) (by dsimp only; omega)).below hb3
  rw [size_setCell] at hr3 hb3
  have hz2 := hr3.lt
  have hs2 := hb3.size
  rw [size_setCell] at hs2
  have hB3 := hB2'.trans (hb3.mono (by omega))
  clear hb3 hB2 hB2' q1 q2 q3 q4 q5 q6 q7 q8 kb2 kr2 ko2
  simp only [List.setIfInBounds_toArray, List.set_cons_zero, List.set_cons_succ] at ko3
  obtain ⟨q5, q6, q7, q8⟩ := ko3.three
  obtain ⟨q1, q2, q3, q4⟩ := kr3.three
  go_wp2
  have hs3 := hr1.lt
  refine bodyPost_ret (v := .agg #[.slice (some ⟨w.heap.size + 1 + 1 + 1, 0, none⟩) n1 n1, .slice (some ⟨w1.heap.size, 0, none⟩) n2 n2, .slice (some ⟨w2.heap.size, 0, none⟩) n3 n3])
    (by simp [results, Tryz.results123, go_sem, q1, q2, q3]) rfl ⟨w.heap.size + 1 + 1 + 1, w1.heap.size, w2.heap.size, rfl, by omega, hz0, hz01, ?_, ?_, ?_, ?_⟩
  · exact (((hr1.other _ _ (by dsimp only; omega)).other _ _ (by dsimp only; omega)).other _ _ (by dsimp only; omega)).other _ _ (by dsimp only; omega)
  · exact (((hr2.other _ _ (by dsimp only; omega)).other _ _ (by dsimp only; omega)).other _ _ (by dsimp only; omega)).other _ _ (by dsimp only; omega)
  · exact (((hr3.other _ _ (by dsimp only; omega)).other _ _ (by dsimp only; omega)).other _ _ (by dsimp only; omega)).other _ _ (by dsimp only; omega)
  · exact (((hB3.setCell (by dsimp only; omega) _).setCell (by dsimp only; omega) _).setCell (by dsimp only; omega) _).setCell (by dsimp only; omega) _
set_option maxHeartbeats 1000000 in
theorem eqMem_any (a1 a2 a3 b1 b2 b3 : Option Addr) (n1 c1 n2 c2 n3 c3 m1 d1 m2 d2 m3 d3 : Nat) (x1 x2 x3 y1 y2 y3 : List Int) (w : World) (h1 : BS w a1 n1 c1 x1) (h2 : BS w a2 n2 c2 x2) (h3 : BS w a3 n3 c3 x3)
    (k1 : BS w b1 m1 d1 y1) (k2 : BS w b2 m2 d2 y2) (k3 : BS w b3 m3 d3 y3) :
    Calls Tryz.prog 24 #[.agg #[.slice a1 n1 c1, .slice a2 n2 c2, .slice a3 n3 c3], .agg #[.slice b1 m1 d1, .slice b2 m2 d2, .slice b3 m3 d3]] w fun e w' => e = .returned (.bool (decide (x1 = y1) && (decide (x2 = y2) && decide (x3 = y3)))) ∧ Below w.heap.size w w' := by
  have hB0 : Below w.heap.size w ((w.alloc (.cells #[.slice a1 n1 c1, .slice a2 n2 c2, .slice a3 n3 c3] 50)).alloc (.cells #[.slice b1 m1 d1, .slice b2 m2 d2, .slice b3 m3 d3] 50)) :=
    ((Below.refl _ _).alloc (Nat.le_refl _) _).alloc (by simp) _
  go_enter Tryz.func24, Tryz.ntmps24
  go_wp2_with fail
  refine (eqByteS_any a1 b1 n1 c1 m1 d1 x1 y1 _ (h1.below hB0) (k1.below hB0)).mono ?_
  rintro e w1 ⟨rfl, hb1⟩
  have hB1 := hB0.trans (hb1.mono (by simp; omega))
  have u1 := ((Blk.new w #[.slice a1 n1 c1, .slice a2 n2 c2, .slice a3 n3 c3] 50).alloc (.cells #[.slice b1 m1 d1, .slice b2 m2 d2, .slice b3 m3 d3] 50)).below hb1
  have v1 := (Blk.new (w.alloc (.cells #[.slice a1 n1 c1, .slice a2 n2 c2, .slice a3 n3 c3] 50)) #[.slice b1 m1 d1, .slice b2 m2 d2, .slice b3 m3 d3] 50).below hb1
  simp only [World.size_alloc] at v1
  clear hb1
  by_cases e1 : x1 = y1
  · simp only [decide_eq_true e1]
    obtain ⟨q1, q2, q3, q4⟩ := u1.three
    obtain ⟨q5, q6, q7, q8⟩ := v1.three
    have E1 := hide e1
    clear e1
    go_wp2_with fail
    refine (eqByteS_any a2 b2 n2 c2 m2 d2 x2 y2 _ (h2.below hB1) (k2.below hB1)).mono ?_
    rintro e w2 ⟨rfl, hb2⟩
    have hB2 := hB1.trans (hb2.mono hB1.size)
    have u2 := u1.below hb2
    have v2 := v1.below hb2
    clear hb2 q1 q2 q3 q4 q5 q6 q7 q8 u1 v1
    by_cases e2 : x2 = y2
    · simp only [decide_eq_true e2]
      obtain ⟨q1, q2, q3, q4⟩ := u2.three
      obtain ⟨q5, q6, q7, q8⟩ := v2.three
      have E2 := hide e2
      clear e2
      go_wp2_with fail
      refine (eqByteS_any a3 b3 n3 c3 m3 d3 x3 y3 _ (h3.below hB2) (k3.below hB2)).mono ?_
      rintro e w3 ⟨rfl, hb3⟩
      have hB3 := hB2.trans (hb3.mono hB2.size)
      clear hb3 q1 q2 q3 q4 q5 q6 q7 q8 u2 v2
      by_cases e3 : x3 = y3
      · simp only [decide_eq_true e3]
        have E3 := hide e3
        clear e3
        go_wp2
        go_ret
        exact ⟨ret_bool (by simp [unhide E1, unhide E2, unhide E3]), hB3⟩
      · simp only [decide_eq_false e3]
        have E3 := hide e3
        clear e3
        go_wp2
        go_ret
        exact ⟨ret_bool (by simp [unhide E3]), hB3⟩
    · simp only [decide_eq_false e2]
      have E2 := hide e2
      clear e2
      go_wp2
      go_ret
      exact ⟨ret_bool (by simp [unhide E2]), hB2⟩
  · simp only [decide_eq_false e1]
    have E1 := hide e1
    clear e1
    go_wp2
    go_ret
    exact ⟨ret_bool (by simp [unhide E1]), hB1⟩
theorem eqMem_same (a1 a2 a3 b1 b2 b3 : Option Addr) (n1 c1 n2 c2 n3 c3 m1 d1 m2 d2 m3 d3 : Nat) (x1 x2 x3 : List Int) (w : World) (h1 : BS w a1 n1 c1 x1) (h2 : BS w a2 n2 c2 x2) (h3 : BS w a3 n3 c3 x3)
    (k1 : BS w b1 m1 d1 x1) (k2 : BS w b2 m2 d2 x2) (k3 : BS w b3 m3 d3 x3) :
    Calls Tryz.prog 24 #[.agg #[.slice a1 n1 c1, .slice a2 n2 c2, .slice a3 n3 c3], .agg #[.slice b1 m1 d1, .slice b2 m2 d2, .slice b3 m3 d3]] w fun e w' => e = .returned (.bool true) ∧ Below w.heap.size w w' :=
  (eqMem_any a1 a2 a3 b1 b2 b3 n1 c1 n2 c2 n3 c3 m1 d1 m2 d2 m3 d3 x1 x2 x3 x1 x2 x3 w h1 h2 h3 k1 k2 k3).mono fun e w' h => ⟨by rw [h.1]; simp, h.2⟩
end Go.Proofs.YtngdgogjlpjjpaeGreat
