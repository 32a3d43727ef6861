import Derived.Test.YtngdgogjlpjjpacK48
namespace Go.Proofs.Ytngdgogjlpjjpac
open Go.RowKit Go.Maps
set_option linter.unusedVariables false
set_option linter.unusedSimpArgs false
set_option maxRecDepth 100000

theorem fst_keep (f : Nat → List UInt8) (s : List UInt8) {k j : Nat} (h : fst? f s k = some j) : ∀ n, k ≤ n → fst? f s n = some j
  | 0, hn => by
    obtain rfl : k = 0 := by omega
    exact h
  | n + 1, hn => by
    by_cases e : k = n + 1
    · subst e; exact h
    · rw [fst_succ, fst_keep f s h n (by omega)]
theorem fst_hit (f : Nat → List UInt8) (s : List UInt8) {k n : Nat} (h : fst? f s k = none) (e : f k = s) (hk : k < n) : fst? f s n = some k :=
  fst_keep f s (k := k + 1) (by rw [fst_succ, h]; simp [e]) n hk
theorem fst_miss (f : Nat → List UInt8) (s : List UInt8) {k : Nat} (h : fst? f s k = none) (e : f k ≠ s) : fst? f s (k + 1) = none := by
  rw [fst_succ, h]; simp [e]
theorem tbf_bad (n : Nat) (ms : List Md) (k : Nat) (hk : k < n) (h : 16 < (ms.getD k zMd).en) : tbf n ms = false := by
  unfold tbf
  rw [rng_bad (fun i => decide ((ms.getD i zMd).en ≤ 16)) n k hk (decide_eq_false (by omega))]
  simp
theorem tbf_good (n : Nat) (ms : List Md) (h4 : n ≤ 4) (h : ∀ j, j < n → (ms.getD j zMd).en ≤ 16) : tbf n ms = true := by
  unfold tbf
  rw [rng_good (fun i => decide ((ms.getD i zMd).en ≤ 16)) n (fun j hj => decide_eq_true (h j hj)), decide_eq_true h4]
  rfl

set_option maxHeartbeats 4000000 in
theorem sResolve_any (a : Option Addr) (n cap : Nat) (ms : List Md) (s : ByteArray) (w : World) (h : MS w a n cap ms) (hn : n ≤ 1048576) (hs : s.size ≤ 1048576) (hE : ∀ i, i < n → ES w (ms.getD i zMd).ea (ms.getD i zMd).en (ms.getD i zMd).ec (ms.getD i zMd).es ∧ (ms.getD i zMd).en ≤ 1048576) :
    Calls Try.prog 18 #[.slice a n cap, .string s] w fun e w' => e = .returned (rsv n ms s) ∧ Below w.heap.size w w' := by
  obtain ⟨W, hW⟩ : ∃ W, W = w.alloc (.cells #[.int .i64 0, .int .i64 0, .int .i64 0] 38) := ⟨_, rfl⟩
  have hB0 : Below w.heap.size w W := by rw [hW]; exact (Below.refl _ _).alloc (Nat.le_refl _) _
  have kb : Blk W w.heap.size #[.int .i64 0, .int .i64 0, .int .i64 0] 38 := by rw [hW]; exact Blk.new _ _ _
  have HW := hide hW
  clear hW
  have HF := hide (fun w => l4FullOk_any s w hs)
  have HD := hide (fun w => l4Dot_any s w hs)
  obtain ⟨V, hV⟩ : ∃ V, V = rsv n ms s := ⟨_, rfl⟩
  rw [← hV]
  have HV := hide hV
  clear hV
  have fin : ∀ (X : World) (x y z : Int), Below w.heap.size w X → Blk X w.heap.size #[.int .i64 0, .int .i64 0, .int .i64 0] 38 →
      Blk (((X.setCell ⟨w.heap.size, 0, none⟩ (.int .i64 x)).setCell ⟨w.heap.size, 1, none⟩ (.int .i64 y)).setCell ⟨w.heap.size, 2, none⟩ (.int .i64 z)) w.heap.size #[.int .i64 x, .int .i64 y, .int .i64 z] 38 ∧ Below w.heap.size w (((X.setCell ⟨w.heap.size, 0, none⟩ (.int .i64 x)).setCell ⟨w.heap.size, 1, none⟩ (.int .i64 y)).setCell ⟨w.heap.size, 2, none⟩ (.int .i64 z)) := fun X x y z hB k => by
    refine ⟨?_, ((hB.setCell (p := ⟨w.heap.size, 0, none⟩) (Nat.le_refl _) _).setCell (p := ⟨w.heap.size, 1, none⟩) (Nat.le_refl _) _).setCell (p := ⟨w.heap.size, 2, none⟩) (Nat.le_refl _) _⟩
    have := ((k.set 0 (.int .i64 x)).set 1 (.int .i64 y)).set 2 (.int .i64 z)
    simpa using this
  have FIN := hide fin
  clear fin
  by_cases c1 : 4 < n
  · have c1' : (4 : Int) < (n : Int) := by omega
    have hr := hide (rsv_none (n := n) (ms := ms) (s := s) (by unfold rsT tbf; rw [decide_eq_false (show ¬ n ≤ 4 by omega)]; simp))
    obtain ⟨k2, hB2⟩ := FIN.out W 0 0 0 hB0 kb
    obtain ⟨q1, q2, q3, q4⟩ := kb.three
    obtain ⟨s1, s2, s3, s4⟩ := k2.three
    have HX := hide hB2
    clear hB2 hB0 kb k2
    go_enter Try.func18, Try.ntmps18
    go_wp2_with (rw [← HW.out])
    exact bodyPost_ret (v := .tuple #[.agg #[.int .i64 0, .int .i64 0, .int .i64 0], .bool false]) (by simp [results, Try.results18, go_sem, s1, s2, s3]) rfl ⟨by rw [HV.out, hr.out], HX.out⟩
  · have c1' : ¬ (4 : Int) < (n : Int) := by omega
    cases hf : full s
    · rw [hf] at HF
      have hr := hide (rsv_none (n := n) (ms := ms) (s := s) (by unfold rsT; rw [hf]; simp))
      obtain ⟨k2, hB2⟩ := FIN.out W 0 0 0 hB0 kb
      obtain ⟨q1, q2, q3, q4⟩ := kb.three
      obtain ⟨s1, s2, s3, s4⟩ := k2.three
      have HX := hide hB2
      clear hB2 hB0 kb k2
      go_enter Try.func18, Try.ntmps18
      go_wp2_with (first | (rw [← HW.out]) | (go_at_call 55; refine (HF.out _).mono ?_; rintro e w1 ⟨rfl, rfl⟩))
      exact bodyPost_ret (v := .tuple #[.agg #[.int .i64 0, .int .i64 0, .int .i64 0], .bool false]) (by simp [results, Try.results18, go_sem, s1, s2, s3]) rfl ⟨by rw [HV.out, hr.out], HX.out⟩
    · rw [hf] at HF
      have hdot : 0 ≤ dot s ∧ dot s < s.size := by
        rcases dot_range s with h0 | h0
        · exfalso
          unfold full at hf
          rw [h0] at hf
          simp at hf
        · exact h0
      have HT := hide (show tbf n ms = true → rsT n ms s = (fst? (mdNm ms) (cutA s).data.toList n).bind fun i => (fst? (exNm (ms.getD i zMd).es) (cutB s).data.toList (ms.getD i zMd).en).map fun k => (i, k) from fun htb => by unfold rsT; rw [hf, htb]; simp)
      have HTN := hide (show tbf n ms = false → rsT n ms s = none from fun htb => by unfold rsT; rw [htb]; simp)
      clear hf
      go_enter Try.func18, Try.ntmps18
      go_wp2_with (first | (rw [← HW.out]) | (go_at_call 55; refine (HF.out _).mono ?_; rintro e w1 ⟨rfl, rfl⟩))
      go_loopw [6] (fun i wr => ∃ k : Nat, k ≤ n ∧ i = .int .i64 k ∧ Hid (∀ j, j < k → (ms.getD j zMd).en ≤ 16) ∧ Below w.heap.size w wr ∧ Blk wr w.heap.size #[.int .i64 0, .int .i64 0, .int .i64 0] 38) (fun i _ => n - (intOf i).toNat)
      case atStart => exact ⟨0, Nat.zero_le _, rfl, hide (fun j hj => by omega), hB0, kb⟩
      case round =>
        obtain ⟨k, hk, rfl, HJ, hB, kw⟩ := hrel
        clear hB0 kb
        by_cases hlt : k < n
        · have hlt' : (k : Int) < (n : Int) := by omega
          obtain ⟨bb, off, rfl, q0, q1, q2, q3, q4, q5, q6, q7⟩ := (h.below hB).at k hlt
          have HG := hide (show (ms.getD k zMd).en ≤ 16 → ∀ j, j < k + 1 → (ms.getD j zMd).en ≤ 16 from fun h j hj => by
            by_cases e : j = k
            · subst e; exact h
            · exact HJ.out j (by omega))
          have HB := hide (tbf_bad n ms k hlt)
          generalize ms.getD k zMd = m at *
          obtain ⟨nm, ta, tn, tc, tz, ba, bn, bc, bl, da, dn, dc, dz, bss, ra, rn, rc, rz, ia, im, ic, ss, ea, en, ec, es⟩ := m
          dsimp only at q0 q1 q2 q3 q4 q5 q6 q7 HB HG
          by_cases d : 16 < en
          · have d' : (16 : Int) < (en : Int) := by omega
            have hr := hide (rsv_none (HTN.out (HB.out d)))
            obtain ⟨k2, hB2⟩ := FIN.out wr 0 0 0 hB kw
            obtain ⟨p1, p2, p3, p4⟩ := kw.three
            obtain ⟨s1, s2, s3, s4⟩ := k2.three
            have HX := hide hB2
            clear hB2 hB kw k2 q0 q1 q2 q3 q4 q5 q6
            go_wp2
            exact bodyPost_ret (v := .tuple #[.agg #[.int .i64 0, .int .i64 0, .int .i64 0], .bool false]) (by simp [results, Try.results18, go_sem, s1, s2, s3]) rfl ⟨by rw [HV.out, hr.out], HX.out⟩
          · have d' : ¬ (16 : Int) < (en : Int) := by omega
            clear q0 q1 q2 q3 q4 q5 q6
            go_wp2
            go_roundw
            case rel => exact ⟨k + 1, by omega, by go_num, hide (HG.out (by omega)), hB, kw⟩
            case measure => simp [intOf]; omega
        · have hkn : k = n := by omega
          subst hkn
          have HT2 := hide (HT.out (tbf_good k ms (by omega) HJ.out))
          clear HT HTN HJ hk hlt
          unfold cutA cutB at HT2
          generalize dot s = p at *
          obtain ⟨p0, p1⟩ := hdot
          go_wp2_with (go_at_call 56; refine (HD.out _).mono ?_; rintro e w1 ⟨rfl, rfl⟩)
          go_loopw [8] (fun i wx => ∃ j : Nat, j ≤ k ∧ i = .int .i64 j ∧ Hid (fst? (mdNm ms) (s.extract 0 p.toNat).data.toList j = none) ∧ Below w.heap.size w wx ∧ Blk wx w.heap.size #[.int .i64 0, .int .i64 0, .int .i64 0] 38) (fun i _ => k - (intOf i).toNat)
          case atStart => exact ⟨0, Nat.zero_le _, rfl, hide rfl, hB, kw⟩
          case round =>
            obtain ⟨j, hj, rfl, HJ, hBx, kx⟩ := hrel
            clear hB kw
            by_cases hlt : j < k
            · have hlt' : (j : Int) < (k : Int) := by omega
              obtain ⟨bb, off, rfl, q0, q1, q2, q3, q4, q5, q6, q7⟩ := (h.below hBx).at j hlt
              have HMS := hide (fun e => fst_miss (mdNm ms) (s.extract 0 p.toNat).data.toList HJ.out e)
              have HHT := hide (fun e => fst_hit (mdNm ms) (s.extract 0 p.toNat).data.toList HJ.out e hlt)
              obtain ⟨e1, e2⟩ := hE j hlt
              have e3 := e1.below hBx
              clear e1
              have HRS := hide (fun i (h : rsT k ms s = some (j, i)) => rsv_some h)
              have HT3 := hide (show mdNm ms j = (s.extract 0 p.toNat).data.toList → rsT k ms s = (fst? (exNm (ms.getD j zMd).es) (s.extract (p + 1).toNat s.size).data.toList (ms.getD j zMd).en).map (fun i => (j, i)) from fun e => by rw [HT2.out, HHT.out e]; rfl)
              have HNM := hide (show mdNm ms j = (ms.getD j zMd).nm.data.toList from rfl)
              clear HHT HJ
              generalize mdNm ms j = mj at *
              generalize ms.getD j zMd = m at *
              obtain ⟨nm, ta, tn, tc, tz, ba, bn, bc, bl, da, dn, dc, dz, bss, ra, rn, rc, rz, ia, im, ic, ss, ea, en, ec, es⟩ := m
              dsimp only at q0 q1 q2 q3 q4 q5 q6 q7 e2 e3 HRS HT3 HNM
              cases hq : (nm.toList == (s.extract 0 p.toNat).toList)
              · have hne := hide (show mj ≠ (s.extract 0 p.toNat).data.toList from fun e => by
                  rw [HNM.out] at e
                  rw [ByteArray.toList_eq, ByteArray.toList_eq, e] at hq
                  simp at hq)
                clear q1 q2 q3 q4 q5 q6 q7
                go_wp2_with fail
                go_quiet (fail)
                go_wp2
                go_roundw
                case rel => exact ⟨j + 1, by omega, by go_num, hide (HMS.out hne.out), below_drewN hBx nq, kx.below (below_drewN (Below.refl _ _) nq)⟩
                case measure => simp [intOf]; omega
              · have HT4 := hide (HT3.out (by
                  rw [HNM.out]
                  rw [ByteArray.toList_eq, ByteArray.toList_eq] at hq
                  simpa using hq))
                clear HT3 HT2 HMS HNM
                clear q1 q2 q3 q4 q5 q6
                go_wp2_with fail
                go_quiet (fail)
                have q7' : (wr.drewN nq).cell? ⟨bb, off + j * 8 + 7, none⟩ = some (.slice ea en ec) := ((below_drewN (Below.refl wr.heap.size wr) nq).cell (World.block_lt_of_cell? wr _ q7)).trans q7
                have e4 := e3.below (below_drewN (Below.refl wr.heap.size wr) nq)
                have hB4 := below_drewN hBx nq
                have k4 := kx.below (below_drewN (Below.refl wr.heap.size wr) nq)
                clear q0 q7 e3 hBx kx
                generalize wr.drewN nq = w4 at *
                go_wp2
                go_loopw [9] (fun i wy => ∃ l : Nat, l ≤ en ∧ i = .int .i64 l ∧ Hid (fst? (exNm es) (s.extract (p + 1).toNat s.size).data.toList l = none) ∧ Below w4.heap.size w4 wy) (fun i _ => en - (intOf i).toNat)
                case atStart => exact ⟨0, Nat.zero_le _, rfl, hide rfl, Below.refl _ _⟩
                case round =>
                  obtain ⟨l, hl, rfl, HL, hby⟩ := hrel
                  have q7 : wr.cell? ⟨bb, off + j * 8 + 7, none⟩ = some (.slice ea en ec) := (hby.cell (World.block_lt_of_cell? w4 _ q7')).trans q7'
                  have hB5 := hB4.trans (hby.mono hB4.size)
                  have k5 := k4.below hby
                  by_cases hln : l < en
                  · have hln' : (l : Int) < (en : Int) := by omega
                    have e5 := e4.below hby
                    obtain ⟨eb, eo, rfl⟩ := e5.addr (by omega)
                    obtain ⟨x0, x1, x2⟩ := e5.at l hln
                    have HMS := hide (fun e => fst_miss (exNm es) (s.extract (p + 1).toNat s.size).data.toList HL.out e)
                    have HHT := hide (fun e => fst_hit (exNm es) (s.extract (p + 1).toNat s.size).data.toList HL.out e hln)
                    have HNM := hide (show exNm es l = (es.getD l zE).1.data.toList from rfl)
                    have HR2 := hide (HRS.out l)
                    generalize exNm es l = xl at *
                    generalize es.getD l zE = E at *
                    obtain ⟨xn, xb, xa⟩ := E
                    dsimp only at x0 x1 x2 HNM HR2
                    have hbz : Below wr.heap.size wr (wr.alloc (.cells #[.string xn, .int .i64 xb, .int .i64 xa] 86)) := (Below.refl _ _).alloc (Nat.le_refl _) _
                    have kE := Blk.new wr #[.string xn, .int .i64 xb, .int .i64 xa] 86
                    have k6 := k5.below hbz
                    have hB6 := hB5.trans (hbz.mono hB5.size)
                    have hby6 := hby.trans (hbz.mono hby.size)
                    clear hB5 k5
                    obtain ⟨z1, z2, z3, z4⟩ := kE.three
                    cases hq2 : (xn.toList == (s.extract (p + 1).toNat s.size).toList)
                    · have hne := hide (show xl ≠ (s.extract (p + 1).toNat s.size).data.toList from fun e => by
                        rw [HNM.out] at e
                        rw [ByteArray.toList_eq, ByteArray.toList_eq, e] at hq2
                        simp at hq2)
                      go_wp2_with fail
                      go_quiet (fail)
                      go_wp2
                      go_roundw
                      case rel => exact ⟨l + 1, by omega, by go_num, hide (HMS.out hne.out), below_drewN hby6 nq⟩
                      case measure => simp [intOf]; omega
                    · have hr := hide (HR2.out (by
                        rw [HT4.out, HHT.out (by
                          rw [HNM.out]
                          rw [ByteArray.toList_eq, ByteArray.toList_eq] at hq2
                          simpa using hq2)]
                        rfl))
                      go_wp2_with fail
                      go_quiet (fail)
                      have k7 := k6.below (below_drewN (Below.refl _ _) nq)
                      have kE7 := kE.below (below_drewN (Below.refl _ _) nq)
                      have hB7 := below_drewN hB6 nq
                      generalize (wr.alloc (.cells #[.string xn, .int .i64 xb, .int .i64 xa] 86)).drewN nq = w7 at *
                      clear z1 z2 z3 z4 k6 kE hB6 hby6 hbz
                      obtain ⟨z1, z2, z3, z4⟩ := kE7.three
                      obtain ⟨k8, hB8⟩ := FIN.out w7 j xb xa hB7 k7
                      obtain ⟨g1, g2, g3, g4⟩ := k7.three
                      obtain ⟨s1, s2, s3, s4⟩ := k8.three
                      have HX := hide hB8
                      clear hB8 hB7 k7 k8 kE7
                      go_wp2
                      exact bodyPost_ret (v := .tuple #[.agg #[.int .i64 j, .int .i64 xb, .int .i64 xa], .bool true]) (by simp [results, Try.results18, go_sem, s1, s2, s3]) rfl ⟨by rw [HV.out, hr.out], HX.out⟩
                  · have hle : l = en := by omega
                    subst hle
                    have hr := hide (rsv_none (n := k) (ms := ms) (s := s) (by rw [HT4.out, HL.out]; rfl))
                    obtain ⟨k8, hB8⟩ := FIN.out wr 0 0 0 hB5 k5
                    obtain ⟨g1, g2, g3, g4⟩ := k5.three
                    obtain ⟨s1, s2, s3, s4⟩ := k8.three
                    have HX := hide hB8
                    clear hB8 hB5 k5 k8
                    go_wp2
                    exact bodyPost_ret (v := .tuple #[.agg #[.int .i64 0, .int .i64 0, .int .i64 0], .bool false]) (by simp [results, Try.results18, go_sem, s1, s2, s3]) rfl ⟨by rw [HV.out, hr.out], HX.out⟩
            · have hjk : j = k := by omega
              subst hjk
              have hr := hide (rsv_none (n := j) (ms := ms) (s := s) (by rw [HT2.out, HJ.out]; rfl))
              obtain ⟨k8, hB8⟩ := FIN.out wr 0 0 0 hBx kx
              obtain ⟨g1, g2, g3, g4⟩ := kx.three
              obtain ⟨s1, s2, s3, s4⟩ := k8.three
              have HX := hide hB8
              clear hB8 hBx kx k8
              go_wp2
              exact bodyPost_ret (v := .tuple #[.agg #[.int .i64 0, .int .i64 0, .int .i64 0], .bool false]) (by simp [results, Try.results18, go_sem, s1, s2, s3]) rfl ⟨by rw [HV.out, hr.out], HX.out⟩
end Go.Proofs.Ytngdgogjlpjjpac
