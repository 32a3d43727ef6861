import Derived.Test.YtngdgogjlpjjpaeGreatP10
import Derived.Test.YtngdgogjlpjjpaeGreatP12
import Derived.Test.YtngdgogjlpjjpaeGreatP13
import Derived.Test.YtngdgogjlpjjpaeGreatP16
namespace Go.Proofs.YtngdgogjlpjjpaeGreat
open Go.RowKit Classical
set_option linter.unusedVariables false
set_option linter.unusedSimpArgs false
set_option maxRecDepth 100000
structure Kst (w W : World) (s c k d : Int) : Prop where
  be : Below w.heap.size w W
  k0 : Blk W w.heap.size #[.int .i64 s, .int .i64 c, .int .i64 k, .int .i64 d] 44
  k1 : Blk W (w.heap.size + 1) zL 36
  k2 : Blk W (w.heap.size + 2) zL 36
theorem Kst.below {w W W' : World} {s c k d : Int} (h : Kst w W s c k d) (hb : Below W.heap.size W W') : Kst w W' s c k d := ⟨h.be.trans (hb.mono h.be.size), h.k0.below hb, h.k1.below hb, h.k2.below hb⟩
theorem Kst.drew {w W : World} {s c k d : Int} (h : Kst w W s c k d) : Kst w W.drew s c k d := ⟨h.be.drew, h.k0, h.k1, h.k2⟩
theorem kst_new (w : World) (s c k d : Int) : Kst w (((w.alloc (.cells #[.int .i64 s, .int .i64 c, .int .i64 k, .int .i64 d] 44)).alloc (.cells #[.slice none 0 0, .int .i64 0, .slice none 0 0, .int .i64 0, .int .i64 0, .slice none 0 0] 36)).alloc (.cells #[.slice none 0 0, .int .i64 0, .slice none 0 0, .int .i64 0, .int .i64 0, .slice none 0 0] 36)) s c k d := by
  have k0 := Blk.new w #[.int .i64 s, .int .i64 c, .int .i64 k, .int .i64 d] 44
  have b0 : Below w.heap.size w (w.alloc (.cells #[.int .i64 s, .int .i64 c, .int .i64 k, .int .i64 d] 44)) := (Below.refl _ _).alloc (Nat.le_refl _) _
  have s0 : (w.alloc (.cells #[.int .i64 s, .int .i64 c, .int .i64 k, .int .i64 d] 44)).heap.size = w.heap.size + 1 := by simp
  generalize w.alloc (.cells #[.int .i64 s, .int .i64 c, .int .i64 k, .int .i64 d] 44) = W0 at *
  have k1 := Blk.new W0 #[.slice none 0 0, .int .i64 0, .slice none 0 0, .int .i64 0, .int .i64 0, .slice none 0 0] 36
  have b1 : Below W0.heap.size W0 (W0.alloc (.cells #[.slice none 0 0, .int .i64 0, .slice none 0 0, .int .i64 0, .int .i64 0, .slice none 0 0] 36)) := (Below.refl _ _).alloc (Nat.le_refl _) _
  have s1 : (W0.alloc (.cells #[.slice none 0 0, .int .i64 0, .slice none 0 0, .int .i64 0, .int .i64 0, .slice none 0 0] 36)).heap.size = w.heap.size + 2 := by simp [s0]
  rw [s0] at k1
  generalize W0.alloc (.cells #[.slice none 0 0, .int .i64 0, .slice none 0 0, .int .i64 0, .int .i64 0, .slice none 0 0] 36) = W1 at *
  have k2 := Blk.new W1 #[.slice none 0 0, .int .i64 0, .slice none 0 0, .int .i64 0, .int .i64 0, .slice none 0 0] 36
  have b2 : Below W1.heap.size W1 (W1.alloc (.cells #[.slice none 0 0, .int .i64 0, .slice none 0 0, .int .i64 0, .int .i64 0, .slice none 0 0] 36)) := (Below.refl _ _).alloc (Nat.le_refl _) _
  rw [s1] at k2
  have c12 := b1.trans (b2.mono (by omega))
  exact ⟨b0.trans (c12.mono (by omega)), k0.below c12, k1.below b2, k2⟩
theorem link_end {w W : World} (k1 : Blk W (w.heap.size + 1) zL 36) (v0 v1 v2 v3 v4 v5 : Value) (V : Int) (Q : Ending → World → Prop) (tmps : Array Value) (h4 : tmps[4]? = some (.pointer (some ⟨w.heap.size + 1, 0, none⟩))) (h5 : tmps[5]? = some (.int .i64 V)) (hQ : Q (.returned (.tuple #[.agg #[v0, v1, v2, v3, v4, v5], .int .i64 V])) (st6 W (w.heap.size + 1) v0 v1 v2 v3 v4 v5)) :
    bodyPost Tryz.prog Tryz.f72 Q Exit.ret ⟨tmps, []⟩ (st6 W (w.heap.size + 1) v0 v1 v2 v3 v4 v5) := by
  have k := blk_st6 k1 v0 v1 v2 v3 v4 v5
  have t0 : (st6 W (w.heap.size + 1) v0 v1 v2 v3 v4 v5).cell? ⟨w.heap.size + 1, 0, none⟩ = some v0 := k.cell 0
  have t1 : (st6 W (w.heap.size + 1) v0 v1 v2 v3 v4 v5).cell? ⟨w.heap.size + 1, 1, none⟩ = some v1 := k.cell 1
  have t2 : (st6 W (w.heap.size + 1) v0 v1 v2 v3 v4 v5).cell? ⟨w.heap.size + 1, 2, none⟩ = some v2 := k.cell 2
  have t3 : (st6 W (w.heap.size + 1) v0 v1 v2 v3 v4 v5).cell? ⟨w.heap.size + 1, 3, none⟩ = some v3 := k.cell 3
  have t4 : (st6 W (w.heap.size + 1) v0 v1 v2 v3 v4 v5).cell? ⟨w.heap.size + 1, 4, none⟩ = some v4 := k.cell 4
  have t5 : (st6 W (w.heap.size + 1) v0 v1 v2 v3 v4 v5).cell? ⟨w.heap.size + 1, 5, none⟩ = some v5 := k.cell 5
  refine bodyPost_ret_by (v := .tuple #[.agg #[v0, v1, v2, v3, v4, v5], .int .i64 V]) ?_ rfl hQ
  simp [results, Tryz.results72, go_sem, h4, h5, t0, t1, t2, t3, t4, t5]
theorem link_no {w W : World} {ps : List PMod} {s c k d V : Int} (S : Kst w W s c k d) (hV : lkc ps s c k d = V) (h0 : V ≠ 0) (tmps : Array Value) (h4 : tmps[4]? = some (.pointer (some ⟨w.heap.size + 1, 0, none⟩))) (h5 : tmps[5]? = some (.int .i64 V)) :
    bodyPost Tryz.prog Tryz.f72 (LkM w ps s c k d) Exit.ret ⟨tmps, []⟩ (st6 W (w.heap.size + 1) (.slice none 0 0) (.int .i64 0) (.slice none 0 0) (.int .i64 0) (.int .i64 0) (.slice none 0 0)) :=
  link_end S.k1 _ _ _ _ _ _ V _ tmps h4 h5 (lk_none (below_turn S.be (turn_st6 _ _ _ _ _ _ _ _) (fun j hj => by have e : j = w.heap.size + 1 := hj; omega) S.be.size) hV h0)
set_option maxHeartbeats 8000000 in
theorem sLink_any (a : Option Addr) (n cap : Nat) (ms : List Md) (s c k d : Int) (w : World) (h : MSD w a n cap ms) :
    Calls Tryz.prog 72 #[.slice a n cap, .agg #[.int .i64 s, .int .i64 c, .int .i64 k, .int .i64 d]] w (LkM w (pmS ms) s c k d) := by
  have K0 := kst_new w s c k d
  have hl := h.s.1
  have hpl : (pmS ms).length = n := by rw [pmS_len, hl]
  have HH := hide h
  have HSND := hide (fun (W : World) (hb : Below w.heap.size w W) => l5Sound_any a n cap ms s c k d W (h.below hb))
  obtain ⟨V, hV⟩ : ∃ V, V = snd4 (pmS ms) s c k d := ⟨_, rfl⟩
  rw [← hV] at HSND
  have HV := hide hV
  have HK := hide K0
  have c0 : (((w.alloc (.cells #[.int .i64 s, .int .i64 c, .int .i64 k, .int .i64 d] 44)).alloc (.cells #[.slice none 0 0, .int .i64 0, .slice none 0 0, .int .i64 0, .int .i64 0, .slice none 0 0] 36)).alloc (.cells #[.slice none 0 0, .int .i64 0, .slice none 0 0, .int .i64 0, .int .i64 0, .slice none 0 0] 36)).cell? ⟨w.heap.size, 0, none⟩ = some (.int .i64 s) := K0.k0.cell 0
  have c1 : (((w.alloc (.cells #[.int .i64 s, .int .i64 c, .int .i64 k, .int .i64 d] 44)).alloc (.cells #[.slice none 0 0, .int .i64 0, .slice none 0 0, .int .i64 0, .int .i64 0, .slice none 0 0] 36)).alloc (.cells #[.slice none 0 0, .int .i64 0, .slice none 0 0, .int .i64 0, .int .i64 0, .slice none 0 0] 36)).cell? ⟨w.heap.size, 1, none⟩ = some (.int .i64 c) := K0.k0.cell 1
  have c2 : (((w.alloc (.cells #[.int .i64 s, .int .i64 c, .int .i64 k, .int .i64 d] 44)).alloc (.cells #[.slice none 0 0, .int .i64 0, .slice none 0 0, .int .i64 0, .int .i64 0, .slice none 0 0] 36)).alloc (.cells #[.slice none 0 0, .int .i64 0, .slice none 0 0, .int .i64 0, .int .i64 0, .slice none 0 0] 36)).cell? ⟨w.heap.size, 2, none⟩ = some (.int .i64 k) := K0.k0.cell 2
  have c3 : (((w.alloc (.cells #[.int .i64 s, .int .i64 c, .int .i64 k, .int .i64 d] 44)).alloc (.cells #[.slice none 0 0, .int .i64 0, .slice none 0 0, .int .i64 0, .int .i64 0, .slice none 0 0] 36)).alloc (.cells #[.slice none 0 0, .int .i64 0, .slice none 0 0, .int .i64 0, .int .i64 0, .slice none 0 0] 36)).cell? ⟨w.heap.size, 3, none⟩ = some (.int .i64 d) := K0.k0.cell 3
  clear h K0 hV
  go_enter Tryz.func72, Tryz.ntmps72
  go_wp2_with fail
  refine (HSND.out _ HK.out.be).mono ?_
  rintro e w1 ⟨rfl, hb1⟩
  have S1 := HK.out.below hb1
  clear hb1 c0 c1 c2 c3 HK
  by_cases hV0 : V = 0
  · have hs4 := HV.out
    rw [hV0] at hs4
    obtain ⟨hcf, h4, hvl⟩ := snd4_parts hs4.symm
    have HS4 := hide hs4.symm
    have HVL := hide hvl
    have HCF := hide hcf
    rw [hpl] at h4
    subst hV0
    clear hs4 hvl hcf
    have HK1 := hide S1
    clear S1
    go_wp2
    go_loopw [7] (fun i wr => ∃ m : Nat, m ≤ n ∧ i = .int .i64 m ∧ (∀ j, j < m → tgOk (pmS ms) ((pmS ms).getD j zP)) ∧ Kst w wr s c k d) (fun i _ => n - (intOf i).toNat)
    case atStart => exact ⟨0, Nat.zero_le _, rfl, fun j hj => absurd hj (by omega), HK1.out⟩
    case round =>
      clear HK1
      obtain ⟨m, hm, rfl, hv, S⟩ := hrel
      by_cases hlt : m < n
      · have hlt' : (m : Int) < (n : Int) := by omega
        have H := HH.out.below S.be
        obtain ⟨b, off, rfl, q0, q1, q2, q3, q4, q5, q6, q7⟩ := H.s.at m hlt
        have HTA := hide (l5Targets_any (some ⟨b, off, none⟩) n cap ms (ms.getD m zMd) wr H HVL.out h4 (H.d m hlt) (by rw [← pmS_at (by omega)]; exact HVL.out m (by omega)))
        have HEP := hide (pmS_at (ms := ms) (i := m) (by omega))
        have HG := hide (And.intro hv S)
        generalize ms.getD m zMd = M at *
        clear H hv S
        go_wp2_with fail
        refine HTA.out.mono ?_
        rintro e w2 ⟨hb2, H2⟩
        have S2 := HG.out.2.below hb2
        clear hb2 HTA q0 q1 q2 q3 q4 q5 q6 q7
        rcases H2 with ⟨hno, v, rfl⟩ | ⟨hyes, at', ct', rfl, _⟩
        · have HP := hide (lkc_5 (d := d) (k := k) (w := c) (s := s) HS4.out (fun hi => hno (by rw [← HEP.out]; exact hi m (by omega))))
          have HS := hide S2
          have u0 : w2.cell? ⟨w.heap.size + 1 + 1, 0, none⟩ = some (.slice none 0 0) := S2.k2.cell 0
          have u1 : w2.cell? ⟨w.heap.size + 1 + 1, 1, none⟩ = some (.int .i64 0) := S2.k2.cell 1
          have u2 : w2.cell? ⟨w.heap.size + 1 + 1, 2, none⟩ = some (.slice none 0 0) := S2.k2.cell 2
          have u3 : w2.cell? ⟨w.heap.size + 1 + 1, 3, none⟩ = some (.int .i64 0) := S2.k2.cell 3
          have u4 : w2.cell? ⟨w.heap.size + 1 + 1, 4, none⟩ = some (.int .i64 0) := S2.k2.cell 4
          have u5 : w2.cell? ⟨w.heap.size + 1 + 1, 5, none⟩ = some (.slice none 0 0) := S2.k2.cell 5
          have p0 : w2.cell? ⟨w.heap.size + 1, 0, none⟩ = some (.slice none 0 0) := S2.k1.cell 0
          have p1 : w2.cell? ⟨w.heap.size + 1, 1, none⟩ = some (.int .i64 0) := S2.k1.cell 1
          have p2 : w2.cell? ⟨w.heap.size + 1, 2, none⟩ = some (.slice none 0 0) := S2.k1.cell 2
          have p3 : w2.cell? ⟨w.heap.size + 1, 3, none⟩ = some (.int .i64 0) := S2.k1.cell 3
          have p4 : w2.cell? ⟨w.heap.size + 1, 4, none⟩ = some (.int .i64 0) := S2.k1.cell 4
          have p5 : w2.cell? ⟨w.heap.size + 1, 5, none⟩ = some (.slice none 0 0) := S2.k1.cell 5
          have y0 : w2.frozen? ⟨w.heap.size + 1, 0, none⟩ = false := S2.k1.frozen 0
          have y1 : w2.frozen? ⟨w.heap.size + 1, 1, none⟩ = false := S2.k1.frozen 1
          have y2 : w2.frozen? ⟨w.heap.size + 1, 2, none⟩ = false := S2.k1.frozen 2
          have y3 : w2.frozen? ⟨w.heap.size + 1, 3, none⟩ = false := S2.k1.frozen 3
          have y4 : w2.frozen? ⟨w.heap.size + 1, 4, none⟩ = false := S2.k1.frozen 4
          have y5 : w2.frozen? ⟨w.heap.size + 1, 5, none⟩ = false := S2.k1.frozen 5
          clear S2 hno
          go_wp2
          exact link_no HS.out HP.out (by decide) _ rfl rfl
        · have HV2 := hide (show ∀ j, j < m + 1 → tgOk (pmS ms) ((pmS ms).getD j zP) from fun j hj => by
            by_cases e : j = m
            · subst e; rw [HEP.out]; exact hyes
            · exact HG.out.1 j (by omega))
          have HS := hide S2
          clear S2 hyes
          go_wp2
          go_roundw
          case rel => exact ⟨m + 1, by omega, by go_num, HV2.out, HS.out⟩
          case measure => simp [intOf]; omega
      · have hlt' : ¬ (m : Int) < (n : Int) := by omega
        have HI := hide (show imps (pmS ms) from fun i hi => hv i (by omega))
        have HTL := hide (l5TooLong_any a n cap ms s c k d wr (HH.out.below S.be))
        obtain ⟨B, hB⟩ : ∃ B, B = decide (0 < s ∧ ¬ shrt (pmS ms) c) := ⟨_, rfl⟩
        rw [← hB] at HTL
        have HB := hide hB
        have HS := hide S
        have c0 : wr.cell? ⟨w.heap.size, 0, none⟩ = some (.int .i64 s) := S.k0.cell 0
        have c1 : wr.cell? ⟨w.heap.size, 1, none⟩ = some (.int .i64 c) := S.k0.cell 1
        have c2 : wr.cell? ⟨w.heap.size, 2, none⟩ = some (.int .i64 k) := S.k0.cell 2
        have c3 : wr.cell? ⟨w.heap.size, 3, none⟩ = some (.int .i64 d) := S.k0.cell 3
        clear S hv hB
        go_wp2_with fail
        refine HTL.out.mono ?_
        rintro e w3 ⟨rfl, hb3⟩
        have S3 := HS.out.below hb3
        clear hb3 HTL HS c0 c1 c2 c3
        cases B with
        | true =>
          have HP := hide (lkc_6 (d := d) (k := k) HS4.out HI.out (of_decide_eq_true HB.out.symm))
          have HS := hide S3
          have u0 : w3.cell? ⟨w.heap.size + 1 + 1, 0, none⟩ = some (.slice none 0 0) := S3.k2.cell 0
          have u1 : w3.cell? ⟨w.heap.size + 1 + 1, 1, none⟩ = some (.int .i64 0) := S3.k2.cell 1
          have u2 : w3.cell? ⟨w.heap.size + 1 + 1, 2, none⟩ = some (.slice none 0 0) := S3.k2.cell 2
          have u3 : w3.cell? ⟨w.heap.size + 1 + 1, 3, none⟩ = some (.int .i64 0) := S3.k2.cell 3
          have u4 : w3.cell? ⟨w.heap.size + 1 + 1, 4, none⟩ = some (.int .i64 0) := S3.k2.cell 4
          have u5 : w3.cell? ⟨w.heap.size + 1 + 1, 5, none⟩ = some (.slice none 0 0) := S3.k2.cell 5
          have p0 : w3.cell? ⟨w.heap.size + 1, 0, none⟩ = some (.slice none 0 0) := S3.k1.cell 0
          have p1 : w3.cell? ⟨w.heap.size + 1, 1, none⟩ = some (.int .i64 0) := S3.k1.cell 1
          have p2 : w3.cell? ⟨w.heap.size + 1, 2, none⟩ = some (.slice none 0 0) := S3.k1.cell 2
          have p3 : w3.cell? ⟨w.heap.size + 1, 3, none⟩ = some (.int .i64 0) := S3.k1.cell 3
          have p4 : w3.cell? ⟨w.heap.size + 1, 4, none⟩ = some (.int .i64 0) := S3.k1.cell 4
          have p5 : w3.cell? ⟨w.heap.size + 1, 5, none⟩ = some (.slice none 0 0) := S3.k1.cell 5
          have y0 : w3.frozen? ⟨w.heap.size + 1, 0, none⟩ = false := S3.k1.frozen 0
          have y1 : w3.frozen? ⟨w.heap.size + 1, 1, none⟩ = false := S3.k1.frozen 1
          have y2 : w3.frozen? ⟨w.heap.size + 1, 2, none⟩ = false := S3.k1.frozen 2
          have y3 : w3.frozen? ⟨w.heap.size + 1, 3, none⟩ = false := S3.k1.frozen 3
          have y4 : w3.frozen? ⟨w.heap.size + 1, 4, none⟩ = false := S3.k1.frozen 4
          have y5 : w3.frozen? ⟨w.heap.size + 1, 5, none⟩ = false := S3.k1.frozen 5
          clear S3
          go_wp2
          exact link_no HS.out HP.out (by decide) _ rfl rfl
        | false =>
          have HN6 := hide (of_decide_eq_false HB.out.symm)
          have HLA := hide (l5Lay_any a n cap ms s c k d w3 (HH.out.below S3.be) h4 HCF.out HVL.out HI.out)
          have HS := hide S3
          have c0 : w3.cell? ⟨w.heap.size, 0, none⟩ = some (.int .i64 s) := S3.k0.cell 0
          have c1 : w3.cell? ⟨w.heap.size, 1, none⟩ = some (.int .i64 c) := S3.k0.cell 1
          have c2 : w3.cell? ⟨w.heap.size, 2, none⟩ = some (.int .i64 k) := S3.k0.cell 2
          have c3 : w3.cell? ⟨w.heap.size, 3, none⟩ = some (.int .i64 d) := S3.k0.cell 3
          clear S3
          go_wp2_with fail
          refine HLA.out.mono ?_
          rintro e w4 ⟨hb4, a0, d0, xs, a2, d2, a5, d5, ts, rfl, LO⟩
          have S4 := HS.out.below hb4
          obtain ⟨L, hL⟩ : ∃ L, L = lay (pmS ms) s c k := ⟨_, rfl⟩
          rw [← hL] at LO ⊢
          have HLL := hide hL
          have al : Below w4.heap.size w4 (w4.alloc (.cells #[.slice a0 xs.length d0, .int .i64 L.stack, .slice a2 L.slots.length d2, .int .i64 L.flash, .int .i64 L.ram, .slice a5 ts.length d5] 36)) := (Below.refl _ _).alloc (Nat.le_refl _) _
          have kL := Blk.new w4 #[.slice a0 xs.length d0, .int .i64 L.stack, .slice a2 L.slots.length d2, .int .i64 L.flash, .int .i64 L.ram, .slice a5 ts.length d5] 36
          have S5 := S4.below al
          have LO5 : LayO (w4.alloc (.cells #[.slice a0 xs.length d0, .int .i64 L.stack, .slice a2 L.slots.length d2, .int .i64 L.flash, .int .i64 L.ram, .slice a5 ts.length d5] 36)) w3.heap.size L a0 d0 xs a2 d2 a5 d5 ts := ⟨LO.p.below al, LO.ps, LO.s.below al, LO.t.below al, LO.tt, LO.sp⟩
          have hs34 := hb4.size
          have hs3 := HS.out.k2.lt
          have l0 : (w4.alloc (.cells #[.slice a0 xs.length d0, .int .i64 L.stack, .slice a2 L.slots.length d2, .int .i64 L.flash, .int .i64 L.ram, .slice a5 ts.length d5] 36)).cell? ⟨w4.heap.size, 0, none⟩ = some (.slice a0 xs.length d0) := kL.cell 0
          have l1 : (w4.alloc (.cells #[.slice a0 xs.length d0, .int .i64 L.stack, .slice a2 L.slots.length d2, .int .i64 L.flash, .int .i64 L.ram, .slice a5 ts.length d5] 36)).cell? ⟨w4.heap.size, 1, none⟩ = some (.int .i64 L.stack) := kL.cell 1
          have l2 : (w4.alloc (.cells #[.slice a0 xs.length d0, .int .i64 L.stack, .slice a2 L.slots.length d2, .int .i64 L.flash, .int .i64 L.ram, .slice a5 ts.length d5] 36)).cell? ⟨w4.heap.size, 2, none⟩ = some (.slice a2 L.slots.length d2) := kL.cell 2
          have l3 : (w4.alloc (.cells #[.slice a0 xs.length d0, .int .i64 L.stack, .slice a2 L.slots.length d2, .int .i64 L.flash, .int .i64 L.ram, .slice a5 ts.length d5] 36)).cell? ⟨w4.heap.size, 3, none⟩ = some (.int .i64 L.flash) := kL.cell 3
          have l4 : (w4.alloc (.cells #[.slice a0 xs.length d0, .int .i64 L.stack, .slice a2 L.slots.length d2, .int .i64 L.flash, .int .i64 L.ram, .slice a5 ts.length d5] 36)).cell? ⟨w4.heap.size, 4, none⟩ = some (.int .i64 L.ram) := kL.cell 4
          have l5 : (w4.alloc (.cells #[.slice a0 xs.length d0, .int .i64 L.stack, .slice a2 L.slots.length d2, .int .i64 L.flash, .int .i64 L.ram, .slice a5 ts.length d5] 36)).cell? ⟨w4.heap.size, 5, none⟩ = some (.slice a5 ts.length d5) := kL.cell 5
          have HS5 := hide (And.intro S5 LO5)
          have hz5 : (w4.alloc (.cells #[.slice a0 xs.length d0, .int .i64 L.stack, .slice a2 L.slots.length d2, .int .i64 L.flash, .int .i64 L.ram, .slice a5 ts.length d5] 36)).heap.size = w4.heap.size + 1 := by simp
          clear hb4 S4 LO al kL hL HS HLA c0 c1 c2 c3
          unfold layV
          by_cases h7 : 16384 < L.flash
          · have HP := hide (lkc_7 (d := d) HS4.out HI.out HN6.out (by rw [← HLL.out]; exact h7))
            have u0 : (w4.alloc (.cells #[.slice a0 xs.length d0, .int .i64 L.stack, .slice a2 L.slots.length d2, .int .i64 L.flash, .int .i64 L.ram, .slice a5 ts.length d5] 36)).cell? ⟨w.heap.size + 1 + 1, 0, none⟩ = some (.slice none 0 0) := S5.k2.cell 0
            have u1 : (w4.alloc (.cells #[.slice a0 xs.length d0, .int .i64 L.stack, .slice a2 L.slots.length d2, .int .i64 L.flash, .int .i64 L.ram, .slice a5 ts.length d5] 36)).cell? ⟨w.heap.size + 1 + 1, 1, none⟩ = some (.int .i64 0) := S5.k2.cell 1
            have u2 : (w4.alloc (.cells #[.slice a0 xs.length d0, .int .i64 L.stack, .slice a2 L.slots.length d2, .int .i64 L.flash, .int .i64 L.ram, .slice a5 ts.length d5] 36)).cell? ⟨w.heap.size + 1 + 1, 2, none⟩ = some (.slice none 0 0) := S5.k2.cell 2
            have u3 : (w4.alloc (.cells #[.slice a0 xs.length d0, .int .i64 L.stack, .slice a2 L.slots.length d2, .int .i64 L.flash, .int .i64 L.ram, .slice a5 ts.length d5] 36)).cell? ⟨w.heap.size + 1 + 1, 3, none⟩ = some (.int .i64 0) := S5.k2.cell 3
            have u4 : (w4.alloc (.cells #[.slice a0 xs.length d0, .int .i64 L.stack, .slice a2 L.slots.length d2, .int .i64 L.flash, .int .i64 L.ram, .slice a5 ts.length d5] 36)).cell? ⟨w.heap.size + 1 + 1, 4, none⟩ = some (.int .i64 0) := S5.k2.cell 4
            have u5 : (w4.alloc (.cells #[.slice a0 xs.length d0, .int .i64 L.stack, .slice a2 L.slots.length d2, .int .i64 L.flash, .int .i64 L.ram, .slice a5 ts.length d5] 36)).cell? ⟨w.heap.size + 1 + 1, 5, none⟩ = some (.slice none 0 0) := S5.k2.cell 5
            have p0 : (w4.alloc (.cells #[.slice a0 xs.length d0, .int .i64 L.stack, .slice a2 L.slots.length d2, .int .i64 L.flash, .int .i64 L.ram, .slice a5 ts.length d5] 36)).cell? ⟨w.heap.size + 1, 0, none⟩ = some (.slice none 0 0) := S5.k1.cell 0
            have p1 : (w4.alloc (.cells #[.slice a0 xs.length d0, .int .i64 L.stack, .slice a2 L.slots.length d2, .int .i64 L.flash, .int .i64 L.ram, .slice a5 ts.length d5] 36)).cell? ⟨w.heap.size + 1, 1, none⟩ = some (.int .i64 0) := S5.k1.cell 1
            have p2 : (w4.alloc (.cells #[.slice a0 xs.length d0, .int .i64 L.stack, .slice a2 L.slots.length d2, .int .i64 L.flash, .int .i64 L.ram, .slice a5 ts.length d5] 36)).cell? ⟨w.heap.size + 1, 2, none⟩ = some (.slice none 0 0) := S5.k1.cell 2
            have p3 : (w4.alloc (.cells #[.slice a0 xs.length d0, .int .i64 L.stack, .slice a2 L.slots.length d2, .int .i64 L.flash, .int .i64 L.ram, .slice a5 ts.length d5] 36)).cell? ⟨w.heap.size + 1, 3, none⟩ = some (.int .i64 0) := S5.k1.cell 3
            have p4 : (w4.alloc (.cells #[.slice a0 xs.length d0, .int .i64 L.stack, .slice a2 L.slots.length d2, .int .i64 L.flash, .int .i64 L.ram, .slice a5 ts.length d5] 36)).cell? ⟨w.heap.size + 1, 4, none⟩ = some (.int .i64 0) := S5.k1.cell 4
            have p5 : (w4.alloc (.cells #[.slice a0 xs.length d0, .int .i64 L.stack, .slice a2 L.slots.length d2, .int .i64 L.flash, .int .i64 L.ram, .slice a5 ts.length d5] 36)).cell? ⟨w.heap.size + 1, 5, none⟩ = some (.slice none 0 0) := S5.k1.cell 5
            have y0 : (w4.alloc (.cells #[.slice a0 xs.length d0, .int .i64 L.stack, .slice a2 L.slots.length d2, .int .i64 L.flash, .int .i64 L.ram, .slice a5 ts.length d5] 36)).frozen? ⟨w.heap.size + 1, 0, none⟩ = false := S5.k1.frozen 0
            have y1 : (w4.alloc (.cells #[.slice a0 xs.length d0, .int .i64 L.stack, .slice a2 L.slots.length d2, .int .i64 L.flash, .int .i64 L.ram, .slice a5 ts.length d5] 36)).frozen? ⟨w.heap.size + 1, 1, none⟩ = false := S5.k1.frozen 1
            have y2 : (w4.alloc (.cells #[.slice a0 xs.length d0, .int .i64 L.stack, .slice a2 L.slots.length d2, .int .i64 L.flash, .int .i64 L.ram, .slice a5 ts.length d5] 36)).frozen? ⟨w.heap.size + 1, 2, none⟩ = false := S5.k1.frozen 2
            have y3 : (w4.alloc (.cells #[.slice a0 xs.length d0, .int .i64 L.stack, .slice a2 L.slots.length d2, .int .i64 L.flash, .int .i64 L.ram, .slice a5 ts.length d5] 36)).frozen? ⟨w.heap.size + 1, 3, none⟩ = false := S5.k1.frozen 3
            have y4 : (w4.alloc (.cells #[.slice a0 xs.length d0, .int .i64 L.stack, .slice a2 L.slots.length d2, .int .i64 L.flash, .int .i64 L.ram, .slice a5 ts.length d5] 36)).frozen? ⟨w.heap.size + 1, 4, none⟩ = false := S5.k1.frozen 4
            have y5 : (w4.alloc (.cells #[.slice a0 xs.length d0, .int .i64 L.stack, .slice a2 L.slots.length d2, .int .i64 L.flash, .int .i64 L.ram, .slice a5 ts.length d5] 36)).frozen? ⟨w.heap.size + 1, 5, none⟩ = false := S5.k1.frozen 5
            clear S5 LO5
            go_wp2
            exact link_no HS5.out.1 HP.out (by decide) _ rfl rfl
          · have h7' : ¬ 16384 < L.flash := h7
            by_cases h8 : 16384 < L.ram
            · have HP := hide (lkc_8 (d := d) HS4.out HI.out HN6.out (by rw [← HLL.out]; exact h7) (by rw [← HLL.out]; exact h8))
              have u0 : (w4.alloc (.cells #[.slice a0 xs.length d0, .int .i64 L.stack, .slice a2 L.slots.length d2, .int .i64 L.flash, .int .i64 L.ram, .slice a5 ts.length d5] 36)).cell? ⟨w.heap.size + 1 + 1, 0, none⟩ = some (.slice none 0 0) := S5.k2.cell 0
              have u1 : (w4.alloc (.cells #[.slice a0 xs.length d0, .int .i64 L.stack, .slice a2 L.slots.length d2, .int .i64 L.flash, .int .i64 L.ram, .slice a5 ts.length d5] 36)).cell? ⟨w.heap.size + 1 + 1, 1, none⟩ = some (.int .i64 0) := S5.k2.cell 1
              have u2 : (w4.alloc (.cells #[.slice a0 xs.length d0, .int .i64 L.stack, .slice a2 L.slots.length d2, .int .i64 L.flash, .int .i64 L.ram, .slice a5 ts.length d5] 36)).cell? ⟨w.heap.size + 1 + 1, 2, none⟩ = some (.slice none 0 0) := S5.k2.cell 2
              have u3 : (w4.alloc (.cells #[.slice a0 xs.length d0, .int .i64 L.stack, .slice a2 L.slots.length d2, .int .i64 L.flash, .int .i64 L.ram, .slice a5 ts.length d5] 36)).cell? ⟨w.heap.size + 1 + 1, 3, none⟩ = some (.int .i64 0) := S5.k2.cell 3
              have u4 : (w4.alloc (.cells #[.slice a0 xs.length d0, .int .i64 L.stack, .slice a2 L.slots.length d2, .int .i64 L.flash, .int .i64 L.ram, .slice a5 ts.length d5] 36)).cell? ⟨w.heap.size + 1 + 1, 4, none⟩ = some (.int .i64 0) := S5.k2.cell 4
              have u5 : (w4.alloc (.cells #[.slice a0 xs.length d0, .int .i64 L.stack, .slice a2 L.slots.length d2, .int .i64 L.flash, .int .i64 L.ram, .slice a5 ts.length d5] 36)).cell? ⟨w.heap.size + 1 + 1, 5, none⟩ = some (.slice none 0 0) := S5.k2.cell 5
              have p0 : (w4.alloc (.cells #[.slice a0 xs.length d0, .int .i64 L.stack, .slice a2 L.slots.length d2, .int .i64 L.flash, .int .i64 L.ram, .slice a5 ts.length d5] 36)).cell? ⟨w.heap.size + 1, 0, none⟩ = some (.slice none 0 0) := S5.k1.cell 0
              have p1 : (w4.alloc (.cells #[.slice a0 xs.length d0, .int .i64 L.stack, .slice a2 L.slots.length d2, .int .i64 L.flash, .int .i64 L.ram, .slice a5 ts.length d5] 36)).cell? ⟨w.heap.size + 1, 1, none⟩ = some (.int .i64 0) := S5.k1.cell 1
              have p2 : (w4.alloc (.cells #[.slice a0 xs.length d0, .int .i64 L.stack, .slice a2 L.slots.length d2, .int .i64 L.flash, .int .i64 L.ram, .slice a5 ts.length d5] 36)).cell? ⟨w.heap.size + 1, 2, none⟩ = some (.slice none 0 0) := S5.k1.cell 2
              have p3 : (w4.alloc (.cells #[.slice a0 xs.length d0, .int .i64 L.stack, .slice a2 L.slots.length d2, .int .i64 L.flash, .int .i64 L.ram, .slice a5 ts.length d5] 36)).cell? ⟨w.heap.size + 1, 3, none⟩ = some (.int .i64 0) := S5.k1.cell 3
              have p4 : (w4.alloc (.cells #[.slice a0 xs.length d0, .int .i64 L.stack, .slice a2 L.slots.length d2, .int .i64 L.flash, .int .i64 L.ram, .slice a5 ts.length d5] 36)).cell? ⟨w.heap.size + 1, 4, none⟩ = some (.int .i64 0) := S5.k1.cell 4
              have p5 : (w4.alloc (.cells #[.slice a0 xs.length d0, .int .i64 L.stack, .slice a2 L.slots.length d2, .int .i64 L.flash, .int .i64 L.ram, .slice a5 ts.length d5] 36)).cell? ⟨w.heap.size + 1, 5, none⟩ = some (.slice none 0 0) := S5.k1.cell 5
              have y0 : (w4.alloc (.cells #[.slice a0 xs.length d0, .int .i64 L.stack, .slice a2 L.slots.length d2, .int .i64 L.flash, .int .i64 L.ram, .slice a5 ts.length d5] 36)).frozen? ⟨w.heap.size + 1, 0, none⟩ = false := S5.k1.frozen 0
              have y1 : (w4.alloc (.cells #[.slice a0 xs.length d0, .int .i64 L.stack, .slice a2 L.slots.length d2, .int .i64 L.flash, .int .i64 L.ram, .slice a5 ts.length d5] 36)).frozen? ⟨w.heap.size + 1, 1, none⟩ = false := S5.k1.frozen 1
              have y2 : (w4.alloc (.cells #[.slice a0 xs.length d0, .int .i64 L.stack, .slice a2 L.slots.length d2, .int .i64 L.flash, .int .i64 L.ram, .slice a5 ts.length d5] 36)).frozen? ⟨w.heap.size + 1, 2, none⟩ = false := S5.k1.frozen 2
              have y3 : (w4.alloc (.cells #[.slice a0 xs.length d0, .int .i64 L.stack, .slice a2 L.slots.length d2, .int .i64 L.flash, .int .i64 L.ram, .slice a5 ts.length d5] 36)).frozen? ⟨w.heap.size + 1, 3, none⟩ = false := S5.k1.frozen 3
              have y4 : (w4.alloc (.cells #[.slice a0 xs.length d0, .int .i64 L.stack, .slice a2 L.slots.length d2, .int .i64 L.flash, .int .i64 L.ram, .slice a5 ts.length d5] 36)).frozen? ⟨w.heap.size + 1, 4, none⟩ = false := S5.k1.frozen 4
              have y5 : (w4.alloc (.cells #[.slice a0 xs.length d0, .int .i64 L.stack, .slice a2 L.slots.length d2, .int .i64 L.flash, .int .i64 L.ram, .slice a5 ts.length d5] 36)).frozen? ⟨w.heap.size + 1, 5, none⟩ = false := S5.k1.frozen 5
              clear S5 LO5
              go_wp2
              exact link_no HS5.out.1 HP.out (by decide) _ rfl rfl
            · have HP := hide (lkc_0 (d := d) HS4.out HI.out HN6.out (by rw [← HLL.out]; exact h7) (by rw [← HLL.out]; exact h8))
              have p0 : (w4.alloc (.cells #[.slice a0 xs.length d0, .int .i64 L.stack, .slice a2 L.slots.length d2, .int .i64 L.flash, .int .i64 L.ram, .slice a5 ts.length d5] 36)).cell? ⟨w.heap.size + 1, 0, none⟩ = some (.slice none 0 0) := S5.k1.cell 0
              have p1 : (w4.alloc (.cells #[.slice a0 xs.length d0, .int .i64 L.stack, .slice a2 L.slots.length d2, .int .i64 L.flash, .int .i64 L.ram, .slice a5 ts.length d5] 36)).cell? ⟨w.heap.size + 1, 1, none⟩ = some (.int .i64 0) := S5.k1.cell 1
              have p2 : (w4.alloc (.cells #[.slice a0 xs.length d0, .int .i64 L.stack, .slice a2 L.slots.length d2, .int .i64 L.flash, .int .i64 L.ram, .slice a5 ts.length d5] 36)).cell? ⟨w.heap.size + 1, 2, none⟩ = some (.slice none 0 0) := S5.k1.cell 2
              have p3 : (w4.alloc (.cells #[.slice a0 xs.length d0, .int .i64 L.stack, .slice a2 L.slots.length d2, .int .i64 L.flash, .int .i64 L.ram, .slice a5 ts.length d5] 36)).cell? ⟨w.heap.size + 1, 3, none⟩ = some (.int .i64 0) := S5.k1.cell 3
              have p4 : (w4.alloc (.cells #[.slice a0 xs.length d0, .int .i64 L.stack, .slice a2 L.slots.length d2, .int .i64 L.flash, .int .i64 L.ram, .slice a5 ts.length d5] 36)).cell? ⟨w.heap.size + 1, 4, none⟩ = some (.int .i64 0) := S5.k1.cell 4
              have p5 : (w4.alloc (.cells #[.slice a0 xs.length d0, .int .i64 L.stack, .slice a2 L.slots.length d2, .int .i64 L.flash, .int .i64 L.ram, .slice a5 ts.length d5] 36)).cell? ⟨w.heap.size + 1, 5, none⟩ = some (.slice none 0 0) := S5.k1.cell 5
              have y0 : (w4.alloc (.cells #[.slice a0 xs.length d0, .int .i64 L.stack, .slice a2 L.slots.length d2, .int .i64 L.flash, .int .i64 L.ram, .slice a5 ts.length d5] 36)).frozen? ⟨w.heap.size + 1, 0, none⟩ = false := S5.k1.frozen 0
              have y1 : (w4.alloc (.cells #[.slice a0 xs.length d0, .int .i64 L.stack, .slice a2 L.slots.length d2, .int .i64 L.flash, .int .i64 L.ram, .slice a5 ts.length d5] 36)).frozen? ⟨w.heap.size + 1, 1, none⟩ = false := S5.k1.frozen 1
              have y2 : (w4.alloc (.cells #[.slice a0 xs.length d0, .int .i64 L.stack, .slice a2 L.slots.length d2, .int .i64 L.flash, .int .i64 L.ram, .slice a5 ts.length d5] 36)).frozen? ⟨w.heap.size + 1, 2, none⟩ = false := S5.k1.frozen 2
              have y3 : (w4.alloc (.cells #[.slice a0 xs.length d0, .int .i64 L.stack, .slice a2 L.slots.length d2, .int .i64 L.flash, .int .i64 L.ram, .slice a5 ts.length d5] 36)).frozen? ⟨w.heap.size + 1, 3, none⟩ = false := S5.k1.frozen 3
              have y4 : (w4.alloc (.cells #[.slice a0 xs.length d0, .int .i64 L.stack, .slice a2 L.slots.length d2, .int .i64 L.flash, .int .i64 L.ram, .slice a5 ts.length d5] 36)).frozen? ⟨w.heap.size + 1, 4, none⟩ = false := S5.k1.frozen 4
              have y5 : (w4.alloc (.cells #[.slice a0 xs.length d0, .int .i64 L.stack, .slice a2 L.slots.length d2, .int .i64 L.flash, .int .i64 L.ram, .slice a5 ts.length d5] 36)).frozen? ⟨w.heap.size + 1, 5, none⟩ = false := S5.k1.frozen 5
              clear S5 LO5
              go_wp2
              refine link_end HS5.out.1.k1 _ _ _ _ _ _ 0 _ _ rfl rfl ?_
              obtain ⟨S5, LO5⟩ := HS5.out
              have t := turn_st6 (w4.alloc (.cells #[.slice a0 xs.length d0, .int .i64 L.stack, .slice a2 L.slots.length d2, .int .i64 L.flash, .int .i64 L.ram, .slice a5 ts.length d5] 36)) (w.heap.size + 1) (.slice a0 xs.length d0) (.int .i64 L.stack) (.slice a2 L.slots.length d2) (.int .i64 L.flash) (.int .i64 L.ram) (.slice a5 ts.length d5)
              refine ⟨below_turn S5.be t (fun j hj => by have e : j = w.heap.size + 1 := hj; omega) S5.be.size, a0, d0, xs, a2, d2, a5, d5, ts, ?_, ?_⟩
              · unfold lkL; rw [if_pos HP.out, HP.out, ← HLL.out]; rfl
              · unfold lkL; rw [if_pos HP.out, ← HLL.out]
                have hno : ∀ k, w3.heap.size ≤ k → ¬ (k = w.heap.size + 1) := fun k hk e => by omega
                exact ⟨(LO5.p.kept t (fun k hk => hno k (LO5.p.lt.1 k hk).1) (fun x hx k hk => hno k (LO5.p.lt.2 x hx k hk).1)).mono (by omega) (by omega), LO5.ps, (LO5.s.kept t (fun k hk => hno k (LO5.s.lt k hk).1)).mono (by omega), (LO5.t.kept t (fun k hk => hno k (LO5.t.lt.1 k hk).1) (fun x hx k hk => hno k (LO5.t.lt.2 x hx k hk).1)).mono (by omega) (by omega), LO5.tt, LO5.sp⟩
  · have hV0' : (V != 0) = true := by simp [hV0]
    have HP := hide (lkc_1 (ps := pmS ms) HV.out.symm hV0)
    have HS := hide S1
    have u0 : w1.cell? ⟨w.heap.size + 1 + 1, 0, none⟩ = some (.slice none 0 0) := S1.k2.cell 0
    have u1 : w1.cell? ⟨w.heap.size + 1 + 1, 1, none⟩ = some (.int .i64 0) := S1.k2.cell 1
    have u2 : w1.cell? ⟨w.heap.size + 1 + 1, 2, none⟩ = some (.slice none 0 0) := S1.k2.cell 2
    have u3 : w1.cell? ⟨w.heap.size + 1 + 1, 3, none⟩ = some (.int .i64 0) := S1.k2.cell 3
    have u4 : w1.cell? ⟨w.heap.size + 1 + 1, 4, none⟩ = some (.int .i64 0) := S1.k2.cell 4
    have u5 : w1.cell? ⟨w.heap.size + 1 + 1, 5, none⟩ = some (.slice none 0 0) := S1.k2.cell 5
    have p0 : w1.cell? ⟨w.heap.size + 1, 0, none⟩ = some (.slice none 0 0) := S1.k1.cell 0
    have p1 : w1.cell? ⟨w.heap.size + 1, 1, none⟩ = some (.int .i64 0) := S1.k1.cell 1
    have p2 : w1.cell? ⟨w.heap.size + 1, 2, none⟩ = some (.slice none 0 0) := S1.k1.cell 2
    have p3 : w1.cell? ⟨w.heap.size + 1, 3, none⟩ = some (.int .i64 0) := S1.k1.cell 3
    have p4 : w1.cell? ⟨w.heap.size + 1, 4, none⟩ = some (.int .i64 0) := S1.k1.cell 4
    have p5 : w1.cell? ⟨w.heap.size + 1, 5, none⟩ = some (.slice none 0 0) := S1.k1.cell 5
    have y0 : w1.frozen? ⟨w.heap.size + 1, 0, none⟩ = false := S1.k1.frozen 0
    have y1 : w1.frozen? ⟨w.heap.size + 1, 1, none⟩ = false := S1.k1.frozen 1
    have y2 : w1.frozen? ⟨w.heap.size + 1, 2, none⟩ = false := S1.k1.frozen 2
    have y3 : w1.frozen? ⟨w.heap.size + 1, 3, none⟩ = false := S1.k1.frozen 3
    have y4 : w1.frozen? ⟨w.heap.size + 1, 4, none⟩ = false := S1.k1.frozen 4
    have y5 : w1.frozen? ⟨w.heap.size + 1, 5, none⟩ = false := S1.k1.frozen 5
    have c0 : w1.cell? ⟨w.heap.size, 0, none⟩ = some (.int .i64 s) := S1.k0.cell 0
    have c1 : w1.cell? ⟨w.heap.size, 1, none⟩ = some (.int .i64 c) := S1.k0.cell 1
    have c2 : w1.cell? ⟨w.heap.size, 2, none⟩ = some (.int .i64 k) := S1.k0.cell 2
    have c3 : w1.cell? ⟨w.heap.size, 3, none⟩ = some (.int .i64 d) := S1.k0.cell 3
    clear S1
    go_wp2_with fail
    go_region_law (first
      | (go_simp; go_at_call 159; refine (HSND.out _ (by first | exact HS.out.be | exact HS.out.drew.be)).mono ?_; rintro e w12 ⟨rfl, hb12⟩; have HE2 := hide (show Kst w w12 s c k d from (by first | exact HS.out.below hb12 | exact HS.out.drew.below hb12)); have vu0 : w12.cell? ⟨w.heap.size + 1 + 1, 0, none⟩ = some (.slice none 0 0) := HE2.out.k2.cell 0; have vu1 : w12.cell? ⟨w.heap.size + 1 + 1, 1, none⟩ = some (.int .i64 0) := HE2.out.k2.cell 1; have vu2 : w12.cell? ⟨w.heap.size + 1 + 1, 2, none⟩ = some (.slice none 0 0) := HE2.out.k2.cell 2; have vu3 : w12.cell? ⟨w.heap.size + 1 + 1, 3, none⟩ = some (.int .i64 0) := HE2.out.k2.cell 3; have vu4 : w12.cell? ⟨w.heap.size + 1 + 1, 4, none⟩ = some (.int .i64 0) := HE2.out.k2.cell 4; have vu5 : w12.cell? ⟨w.heap.size + 1 + 1, 5, none⟩ = some (.slice none 0 0) := HE2.out.k2.cell 5; have vp0 : w12.cell? ⟨w.heap.size + 1, 0, none⟩ = some (.slice none 0 0) := HE2.out.k1.cell 0; have vp1 : w12.cell? ⟨w.heap.size + 1, 1, none⟩ = some (.int .i64 0) := HE2.out.k1.cell 1; have vp2 : w12.cell? ⟨w.heap.size + 1, 2, none⟩ = some (.slice none 0 0) := HE2.out.k1.cell 2; have vp3 : w12.cell? ⟨w.heap.size + 1, 3, none⟩ = some (.int .i64 0) := HE2.out.k1.cell 3; have vp4 : w12.cell? ⟨w.heap.size + 1, 4, none⟩ = some (.int .i64 0) := HE2.out.k1.cell 4; have vp5 : w12.cell? ⟨w.heap.size + 1, 5, none⟩ = some (.slice none 0 0) := HE2.out.k1.cell 5; have vy0 : w12.frozen? ⟨w.heap.size + 1, 0, none⟩ = false := HE2.out.k1.frozen 0; have vy1 : w12.frozen? ⟨w.heap.size + 1, 1, none⟩ = false := HE2.out.k1.frozen 1; have vy2 : w12.frozen? ⟨w.heap.size + 1, 2, none⟩ = false := HE2.out.k1.frozen 2; have vy3 : w12.frozen? ⟨w.heap.size + 1, 3, none⟩ = false := HE2.out.k1.frozen 3; have vy4 : w12.frozen? ⟨w.heap.size + 1, 4, none⟩ = false := HE2.out.k1.frozen 4; have vy5 : w12.frozen? ⟨w.heap.size + 1, 5, none⟩ = false := HE2.out.k1.frozen 5; have vc0 : w12.cell? ⟨w.heap.size, 0, none⟩ = some (.int .i64 s) := HE2.out.k0.cell 0; have vc1 : w12.cell? ⟨w.heap.size, 1, none⟩ = some (.int .i64 c) := HE2.out.k0.cell 1; have vc2 : w12.cell? ⟨w.heap.size, 2, none⟩ = some (.int .i64 k) := HE2.out.k0.cell 2; have vc3 : w12.cell? ⟨w.heap.size, 3, none⟩ = some (.int .i64 d) := HE2.out.k0.cell 3; clear hb12))
    all_goals
      go_wp2
      exact link_no HE2.out HP.out hV0 _ rfl rfl
end Go.Proofs.YtngdgogjlpjjpaeGreat
namespace Go.Proofs.YtngdgogjlpjjpaeGreat
open Go.RowKit Classical
open Go Go.Maps Go.WideShapes
set_option linter.unusedVariables false
set_option linter.unusedSimpArgs false
set_option maxRecDepth 100000
set_option maxHeartbeats 1000000 in
theorem roundUp_any (x : Int) (w : World) (h0 : 0 ≤ x) (h1 : x ≤ 4294967295) : Calls Tryz.prog 229 #[.int .i64 x] w fun e w' => e = .returned (.int .i64 (rnd x)) ∧ w' = w := by
  have hd : (x + 31).tdiv 32 = (x + 31) / 32 := Int.tdiv_eq_ediv_of_nonneg (by omega)
  go_enter Tryz.func229, Tryz.ntmps229
  go_wp2
  go_ret
  exact ⟨ret_int (by unfold rnd; rw [show x + 31 = x + 32 - 1 by omega]), rfl⟩
set_option maxHeartbeats 1000000 in
theorem wordBytes_any (a : Option Addr) (n cap : Nat) (w : World) (hn : n ≤ 1048576) : Calls Tryz.prog 187 #[.slice a n cap] w fun e w' => e = .returned (.int .i64 (rnd (4 * (n : Int)))) ∧ w' = w := by
  have hw : IntKind.i64.wrap (4 * (n : Int)) = 4 * (n : Int) := wraps62 _ (by omega) (by omega)
  have HR := hide (roundUp_any (4 * (n : Int)) w (by omega) (by omega))
  go_enter Tryz.func187, Tryz.ntmps187
  go_wp2_with fail
  refine HR.out.mono ?_
  rintro e w1 ⟨rfl, rfl⟩
  go_wp2
  go_ret
  exact ⟨rfl, rfl⟩
theorem Md.okI {m : Md} {w : World} (h : m.md w) : Calls Tryz.prog 225 #[.agg #[.string m.nm, .slice m.ta m.tn m.tc, .slice m.ba m.bn m.bc, .slice m.da m.dn m.dc, .int .i64 m.bss, .slice m.ra m.rn m.rc, .slice m.ia m.im m.ic, .slice m.ea m.en m.ec]] w fun e w' => e = .returned (.int .i64 (mdoP m.pm)) ∧ Below w.heap.size w w' := by
  have := iModuleOk_any _ _ _ _ _ _ _ _ _ _ _ _ _ _ _ _ _ _ _ _ _ _ _ _ _ _ w h
  rw [md_mdo h] at this
  exact this
theorem ba_ext {a b : ByteArray} : a.data.toList = b.data.toList ↔ a = b := by
  constructor
  · intro e
    cases a
    cases b
    simp at e
    rw [e]
  · intro e; rw [e]
theorem nms_size {ms : List Md} {n : Nat} (hl : ms.length = n) : (size (fd (mdNm ms) n) = n) ↔ nms (pmS ms) := by
  have h := fd_size (mdNm ms) n
  have key : ∀ i, i < n → ((pmS ms).getD i zP).nm = (ms.getD i zMd).nm := fun i hi => by rw [pmS_at (by omega)]; rfl
  constructor
  · intro e
    rw [decide_eq_true e] at h
    intro i hi k hk
    rw [pmS_len, hl] at hi
    have h' := h.symm
    rw [List.all_eq_true] at h'
    have h1 := h' i (by simpa using hi)
    rw [List.all_eq_true] at h1
    have h2 := h1 k (by simpa using hk)
    rw [key k (by omega), key i hi]
    intro e'
    have e2 : mdNm ms k = mdNm ms i := by unfold mdNm; rw [e']
    rw [e2] at h2
    simp at h2
  · intro hn
    apply of_decide_eq_true
    rw [h, List.all_eq_true]
    intro i hi
    rw [List.all_eq_true]
    intro k hk
    have hi' : i < n := by simpa using hi
    have hk' : k < i := by simpa using hk
    have := hn i (by rw [pmS_len]; omega) k hk'
    rw [key k (by omega), key i hi'] at this
    have h3 : mdNm ms k ≠ mdNm ms i := fun e => this (ba_ext.1 e)
    simp [h3]
end Go.Proofs.YtngdgogjlpjjpaeGreat
namespace Go.Proofs.YtngdgogjlpjjpaeGreat
open Go.RowKit Classical
set_option linter.unusedVariables false
set_option linter.unusedSimpArgs false
set_option maxRecDepth 100000
def Zb (zc : Array Value) (t : TypeId) (W0 X : World) (o : Option Nat) : Prop := Below W0.heap.size W0 X ∧ ∀ g, o = some g → W0.heap.size ≤ g ∧ Blk X g zc t
section
variable {zc : Array Value} {t : TypeId} {W0 X Y : World} {o : Option Nat}
theorem zb_new (zc : Array Value) (t : TypeId) (W0 : World) : Zb zc t W0 W0 none := ⟨Below.refl _ _, fun g e => by cases e⟩
theorem Zb.below (h : Zb zc t W0 X o) (hb : Below X.heap.size X Y) : Zb zc t W0 Y o := ⟨h.1.trans (hb.mono h.1.size), fun g e => ⟨(h.2 g e).1, (h.2 g e).2.below hb⟩⟩
theorem Zb.drew (h : Zb zc t W0 X o) : Zb zc t W0 X.drew o := ⟨h.1.drew, fun g e => ⟨(h.2 g e).1, (h.2 g e).2⟩⟩
theorem Zb.box (h : Zb zc t W0 X none) : Zb zc t W0 (X.alloc (.cells zc t)) (some X.heap.size) := ⟨h.1.alloc h.1.size _, fun g e => by cases e; exact ⟨h.1.size, Blk.new X zc t⟩⟩
end
structure Z2 (zc : Array Value) (t : TypeId) (n : Nat) (ms : List Md) (W0 X : World) (o : Option Nat) (g : Nat) (m : List Md) : Prop where
  z : Zb zc t W0 X o
  r : RowM X g n ms m
  l : m.length = n
section
variable {zc : Array Value} {t : TypeId} {n g : Nat} {ms m : List Md} {W0 X Y : World} {o : Option Nat}
theorem Z2.box (h : Z2 zc t n ms W0 X none g m) : Z2 zc t n ms W0 (X.alloc (.cells zc t)) (some X.heap.size) g m := ⟨h.z.box, h.r.below ((Below.refl _ _).alloc (Nat.le_refl _) _), h.l⟩
end
structure Z3 (zc : Array Value) (t : TypeId) (base : Nat) (L : Lay) (W0 X : World) (o : Option Nat) (a0 : Option Addr) (c0 : Nat) (xs : List PB) (a2 : Option Addr) (c2 : Nat) (a5 : Option Addr) (c5 : Nat) (ts : List TB) : Prop where
  z : Zb zc t W0 X o
  l : ∃ b, base ≤ b ∧ LayO X b L a0 c0 xs a2 c2 a5 c5 ts ∧ ∀ g, o = some g → g < b
section
variable {base : Nat} {L : Lay} {W0 X : World} {gb : Nat} {a0 : Option Addr} {c0 : Nat} {xs : List PB} {a2 : Option Addr} {c2 : Nat} {a5 : Option Addr} {c5 : Nat} {ts : List TB}
end
section
variable {cf : Array Value} {tc : TypeId} {base : Nat} {L : Lay} {w W5 W W' : World} {gb : Nat} {a0 : Option Addr} {c0 : Nat} {xs : List PB} {a2 : Option Addr} {c2 : Nat} {a5 : Option Addr} {c5 : Nat} {ts : List TB}
end
end Go.Proofs.YtngdgogjlpjjpaeGreat
