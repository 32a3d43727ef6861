import Derived.Test.YtngdgogjlpjjpaeGreatGb09
import Derived.Deep.RegionHeld3
namespace Go.Proofs.YtngdgogjlpjjpaeGreat
open Go.RowKit Classical
set_option linter.unusedVariables false
set_option linter.unusedSimpArgs false
set_option maxRecDepth 100000

set_option maxHeartbeats 16000000 in
theorem exactPlan_walk (a : Option Addr) (n cap : Nat) (ms : List Md) (L : Lay) (a0 : Option Addr) (c0 : Nat) (xs : List PB) (a2 : Option Addr) (c2 : Nat) (a5 : Option Addr) (c5 : Nat) (ts : List TB) (tm tb tt sl : Int) (w : World) (h : MS w a n cap ms) (hL : LyT w L a0 c0 xs a2 c2 a5 c5 ts) :
    Calls Tryz.prog 6 #[.slice a n cap, .agg #[.slice a0 xs.length c0, .int .i64 L.stack, .slice a2 L.slots.length c2, .int .i64 L.flash, .int .i64 L.ram, .slice a5 ts.length c5], .agg #[.int .i64 tm, .int .i64 tb, .int .i64 tt], .int .i64 sl] w fun e w' => e = .returned (.bool true) ∧ Below w.heap.size w w' := by
  have HS := hide (fun w h => szModuleS_any a n cap ms 1048576 w h (by omega) (by omega))
  obtain ⟨U, hU⟩ : ∃ U, U = (w.alloc (.cells #[.slice a0 xs.length c0, .int .i64 L.stack, .slice a2 L.slots.length c2, .int .i64 L.flash, .int .i64 L.ram, .slice a5 ts.length c5] 27)).alloc (.cells #[.int .i64 tm, .int .i64 tb, .int .i64 tt] 67) := ⟨_, rfl⟩
  have HB0 : Below w.heap.size w U := by rw [hU]; exact ((Below.refl _ _).alloc (Nat.le_refl _) _).alloc (by simp) _
  have k0 : Blk U w.heap.size #[.slice a0 xs.length c0, .int .i64 L.stack, .slice a2 L.slots.length c2, .int .i64 L.flash, .int .i64 L.ram, .slice a5 ts.length c5] 27 := by rw [hU]; exact (Blk.new w _ _).alloc _
  have kt0 : Blk U (w.heap.size + 1) #[.int .i64 tm, .int .i64 tb, .int .i64 tt] 67 := by rw [hU]; have := Blk.new (w.alloc (.cells #[.slice a0 xs.length c0, .int .i64 L.stack, .slice a2 L.slots.length c2, .int .i64 L.flash, .int .i64 L.ram, .slice a5 ts.length c5] 27)) #[.int .i64 tm, .int .i64 tb, .int .i64 tt] 67; simpa using this
  have HU := hide hU
  clear hU
  obtain ⟨Q1, hQ1⟩ : ∃ Q1, Q1 = n + upS (fun j => (ms.getD j zMd).size) n := ⟨_, rfl⟩
  rw [← hQ1] at HS
  have HQ1 := hide hQ1
  clear hQ1
  by_cases hz : 1048576 < Q1
  · rw [show szR 1048576 Q1 = -1 by unfold szR; rw [if_pos (by omega)]] at HS
    go_enter Tryz.func6, Tryz.ntmps6
    go_wp2_with (rw [← HU.out])
    refine (HS.out _ (h.below HB0)).mono ?_
    rintro e w1 ⟨rfl, hb1⟩
    go_wp2
    go_ret
    exact ⟨rfl, HB0.trans (hb1.mono HB0.size)⟩
  obtain ⟨Z, hZ⟩ : ∃ Z : Int, Z = 1048576 - (Q1 : Int) := ⟨_, rfl⟩
  rw [show szR 1048576 Q1 = Z by unfold szR; rw [if_neg (by omega)]; omega] at HS
  have hZ0 : ¬ Z < 0 := by omega
  have hZ1 : Z ≤ 1048576 := by omega
  have HZE := hide hZ
  clear hZ
  have HSL := hide (fun (W : World) (hb : Below w.heap.size w W) => szLayout_any L a0 c0 xs a2 c2 a5 c5 ts Z W (hL.below hb) (by omega) (by omega))
  by_cases hy : Z < (lySz L xs ts : Int)
  · rw [show szR Z (lySz L xs ts) = -1 by unfold szR; rw [if_pos hy]] at HSL
    go_enter Tryz.func6, Tryz.ntmps6
    go_wp2_with (rw [← HU.out])
    refine (HS.out _ (h.below HB0)).mono ?_
    rintro e w1 ⟨rfl, hb1⟩
    have B1 := HB0.trans (hb1.mono HB0.size)
    have k1 := k0.below hb1
    obtain ⟨x0, x1, x2, x3, x4, x5⟩ := k1.ly6
    go_wp2_with fail
    refine (HSL.out _ B1).mono ?_
    rintro e w2 ⟨rfl, hb2⟩
    go_wp2
    go_ret
    exact ⟨rfl, B1.trans (hb2.mono B1.size)⟩
  obtain ⟨Z2', hZ2⟩ : ∃ Z2' : Int, Z2' = szR Z (lySz L xs ts) := ⟨_, rfl⟩
  rw [← hZ2] at HSL
  have hZ20 : ¬ Z2' < 0 := by rw [hZ2]; unfold szR; rw [if_neg hy]; omega
  clear hZ2
  have HQS := hide (show Q1 + lySz L xs ts ≤ 1048576 by have := HZE.out; omega)
  have HZ := hide (show ∀ i, i < n → (ms.getD i zMd).size ≤ 1048576 from fun i hi => by have := upS_le (fun j => (ms.getD j zMd).size) n i hi; have := HQ1.out; omega)
  have HZS := hide (show n + upS (fun j => (ms.getD j zMd).size) n ≤ 1048576 by have := HQ1.out; omega)
  have hn : n ≤ 1048576 := by have := HQ1.out; omega
  have HLS := hide (show lySz L xs ts ≤ 1048576 by have := HQS.out; omega)
  have HR := hide (hL.lr HLS.out)
  have HV := hide hL.v
  clear hz hy
  have HT := hide (fun (W : World) (hb : Below w.heap.size w W) => toModuleS_any a n cap ms W (h.below hb) hn HZ.out)
  have HTL := hide (fun (W : World) (hb : Below w.heap.size w W) => show Calls Tryz.prog 13 #[.agg #[.slice a0 xs.length c0, .int .i64 L.stack, .slice a2 L.slots.length c2, .int .i64 L.flash, .int .i64 L.ram, .slice a5 ts.length c5]] W fun e w' => Below W.heap.size W w' ∧ ∃ b0 d0 ys b2 d2 b5 d5 us, e = .returned (.agg #[.slice b0 ys.length d0, .int .i64 L.stack, .slice b2 L.slots.length d2, .int .i64 L.flash, .int .i64 L.ram, .slice b5 us.length d5]) ∧ LayO w' W.heap.size L b0 d0 ys b2 d2 b5 d5 us from toLayout_any L a0 c0 xs a2 c2 a5 c5 ts W (hL.below hb) HLS.out)
  obtain ⟨ps, hps⟩ : ∃ ps, ps = pmS ms := ⟨_, rfl⟩
  obtain ⟨ok, hok⟩ : ∃ ok, ok = pnO ps L tm tb sl := ⟨_, rfl⟩
  obtain ⟨R, hRR⟩ : ∃ R, R = pnV ps L tm tb sl := ⟨_, rfl⟩
  obtain ⟨rn, hrn⟩ : ∃ rn, rn = R.length := ⟨_, rfl⟩
  have hr8 : rn ≤ 8 := by rw [hrn, hRR]; exact pnV_len _ _ _ _ _
  have HSP := hide (fun (g : Nat) (m : List Md) (W : World) (r : RowM W g n ms m) (hl : m.length = n) (b0 : Option Addr) (d0 : Nat) (ys : List PB) (b2 : Option Addr) (d2 : Nat) (b5 : Option Addr) (d5 : Nat) (us : List TB) (b : Nat) (y : LayO W b L b0 d0 ys b2 d2 b5 d5 us) => show Calls Tryz.prog 29 #[.slice (some ⟨g, 0, none⟩) n n, .agg #[.slice b0 ys.length d0, .int .i64 L.stack, .slice b2 L.slots.length d2, .int .i64 L.flash, .int .i64 L.ram, .slice b5 us.length d5], .agg #[.int .i64 tm, .int .i64 tb, .int .i64 tt], .int .i64 sl] W fun e w' => Below W.heap.size W w' ∧ ∃ pa pq, e = .returned (.tuple #[.slice pa rn pq, .bool ok]) ∧ ORg w' W.heap.size (.slice pa rn pq) R from by
    refine (sPlan_any (some ⟨g, 0, none⟩) n n m L b0 d0 ys b2 d2 b5 d5 us tm tb tt sl W (rowm_msd r hl h HZ.out) (y.lyt HR.out HV.out)).mono ?_
    rintro e w' ⟨A, k, c, he, ho, hb⟩
    rw [rowm_pms r hl h.1, ← hps, ← hok] at he
    rw [rowm_pms r hl h.1, ← hps, ← hRR] at ho
    have e1 : k = rn := by rw [hrn]; exact (or_rs ho).1.symm
    rw [e1] at he ho
    exact ⟨hb, A, c, he, ho⟩)
  have HIM := hide (fun (g : Nat) (m : List Md) (W : World) (r : RowM W g n ms m) (hl : m.length = n) (b0 : Option Addr) (d0 : Nat) (ys : List PB) (b2 : Option Addr) (d2 : Nat) (b5 : Option Addr) (d5 : Nat) (us : List TB) (b : Nat) (y : LayO W b L b0 d0 ys b2 d2 b5 d5 us) => show Calls Tryz.prog 31 #[.slice (some ⟨g, 0, none⟩) n n, .agg #[.slice b0 ys.length d0, .int .i64 L.stack, .slice b2 L.slots.length d2, .int .i64 L.flash, .int .i64 L.ram, .slice b5 us.length d5], .agg #[.int .i64 tm, .int .i64 tb, .int .i64 tt], .int .i64 sl] W fun e w' => Below W.heap.size W w' ∧ ∃ pa pq, e = .returned (.tuple #[.slice pa rn pq, .bool ok]) ∧ ORg w' W.heap.size (.slice pa rn pq) R from by
    refine (iPlan_any (some ⟨g, 0, none⟩) n n m L b0 d0 ys b2 d2 b5 d5 us tm tb tt sl W (rowm_msd r hl h HZ.out) (y.lyt HR.out HV.out)).mono ?_
    rintro e w' ⟨A, k, c, he, ho, hb⟩
    rw [rowm_pms r hl h.1, ← hps, ← hok] at he
    rw [rowm_pms r hl h.1, ← hps, ← hRR] at ho
    have e1 : k = rn := by rw [hrn]; exact (or_rs ho).1.symm
    rw [e1] at he ho
    exact ⟨hb, A, c, he, ho⟩)
  clear hps hok hRR hrn
  have hokk : (ok != ok) = false := by cases ok <;> rfl
  have HH := hide h
  have HHL := hide hL
  go_enter Tryz.func6, Tryz.ntmps6
  go_wp2_with (rw [← HU.out])
  refine (HS.out _ (h.below HB0)).mono ?_
  rintro e w1 ⟨rfl, hb1⟩
  have hB1 := HB0.trans (hb1.mono HB0.size)
  have k1 := k0.below hb1
  have kt1 := kt0.below hb1
  clear hb1 HB0 k0 kt0 HS h HU
  obtain ⟨x0, x1, x2, x3, x4, x5⟩ := k1.ly6
  go_wp2_with fail
  refine (HSL.out _ hB1).mono ?_
  rintro e v1 ⟨rfl, hb1⟩
  have hB2 := hB1.trans (hb1.mono hB1.size)
  have k2 := k1.below hb1
  have kt2 := kt1.below hb1
  clear hb1 hB1 k1 kt1 HSL x0 x1 x2 x3 x4 x5
  obtain ⟨x0, x1, x2, x3, x4, x5⟩ := k2.ly6
  obtain ⟨x6, x7, x8⟩ := kt2.tg3
  have HBK := hide (And.intro hB2 (And.intro k2 kt2))
  clear hB2 k2 kt2 hL
  have HTZ := hide (fun (W0 X : World) (h0 : Below w.heap.size w W0) (hz : Zb #[] 158 W0 X none) => (HT.out X (h0.trans (hz.1.mono h0.size))).mono (fun e w' he => show e = .returned (.slice (some ⟨X.heap.size, 0, none⟩) n n) ∧ ∃ m, Z2 #[] 158 n ms W0 w' none X.heap.size m from ⟨he.1, by obtain ⟨_, ⟨m, hl, hr⟩, hb⟩ := he; exact ⟨m, hz.below hb, hr, hl⟩⟩))
  have HYZ := hide (fun (W0 X : World) (g : Nat) (m : List Md) (h0 : Below w.heap.size w W0) (hz : Z2 #[] 158 n ms W0 X none g m) => (HTL.out X (h0.trans (hz.z.1.mono h0.size))).mono (fun e w' he => show ∃ b0 d0 ys b2 d2 b5 d5 us, e = .returned (.agg #[.slice b0 ys.length d0, .int .i64 L.stack, .slice b2 L.slots.length d2, .int .i64 L.flash, .int .i64 L.ram, .slice b5 us.length d5]) ∧ Z4 #[] 158 n ms L W0 w' none g m b0 d0 ys b2 d2 b5 d5 us from by
    obtain ⟨hb, b0, d0, ys, b2, d2, b5, d5, us, e1, y⟩ := he
    exact ⟨b0, d0, ys, b2, d2, b5, d5, us, e1, hz.below hb, y.mono hz.z.1.size⟩))
  have HTT := hide (fun (W0 X : World) (g : Nat) (m : List Md) (b0 : Option Addr) (d0 : Nat) (ys : List PB) (b2 : Option Addr) (d2 : Nat) (b5 : Option Addr) (d5 : Nat) (us : List TB) (hz : Z4 #[] 158 n ms L W0 X none g m b0 d0 ys b2 d2 b5 d5 us) => (toTarget_any tm tb tt X).mono (fun e w' he => show e = .returned (.agg #[.int .i64 tm, .int .i64 tb, .int .i64 tt]) ∧ Z4 #[] 158 n ms L W0 w' none g m b0 d0 ys b2 d2 b5 d5 us from ⟨he.1, hz.below he.2⟩))
  have HSZ := hide (fun (W0 X : World) (g : Nat) (m : List Md) (b0 : Option Addr) (d0 : Nat) (ys : List PB) (b2 : Option Addr) (d2 : Nat) (b5 : Option Addr) (d5 : Nat) (us : List TB) (hz : Z4 #[] 158 n ms L W0 X none g m b0 d0 ys b2 d2 b5 d5 us) => (HSP.out g m X hz.z.r hz.z.l b0 d0 ys b2 d2 b5 d5 us _ hz.y).mono (fun e w' he => show ∃ pa pq, e = .returned (.tuple #[.slice pa rn pq, .bool ok]) ∧ Below W0.heap.size W0 w' ∧ ORg w' W0.heap.size (.slice pa rn pq) R from by
    obtain ⟨hb, pa, pq, e1, O⟩ := he
    exact ⟨pa, pq, e1, hz.z.z.1.trans (hb.mono hz.z.z.1.size), org_mono O hz.z.z.1.size⟩))
  have HIZ := hide (fun (W0 X : World) (g : Nat) (m : List Md) (b0 : Option Addr) (d0 : Nat) (ys : List PB) (b2 : Option Addr) (d2 : Nat) (b5 : Option Addr) (d5 : Nat) (us : List TB) (hz : Z4 #[] 158 n ms L W0 X none g m b0 d0 ys b2 d2 b5 d5 us) => (HIM.out g m X hz.z.r hz.z.l b0 d0 ys b2 d2 b5 d5 us _ hz.y).mono (fun e w' he => show ∃ pa pq, e = .returned (.tuple #[.slice pa rn pq, .bool ok]) ∧ Below W0.heap.size W0 w' ∧ ORg w' W0.heap.size (.slice pa rn pq) R from by
    obtain ⟨hb, pa, pq, e1, O⟩ := he
    exact ⟨pa, pq, e1, hz.z.z.1.trans (hb.mono hz.z.z.1.size), org_mono O hz.z.z.1.size⟩))
  have hw1 : w.heap.size + 1 < v1.heap.size := HBK.out.2.2.lt
  have HCL := hide (fun (W : World) (hb : Below v1.heap.size v1 W) => And.intro (HBK.out.2.1.below hb).ly6 (HBK.out.2.2.below hb).tg3)
  go_wp2_with fail
  go_region_held3 (fun w' => w'.cell? ⟨w.heap.size, 0, none⟩ = some (.slice a0 xs.length c0) ∧ w'.cell? ⟨w.heap.size, 1, none⟩ = some (.int .i64 L.stack) ∧ w'.cell? ⟨w.heap.size, 2, none⟩ = some (.slice a2 L.slots.length c2) ∧ w'.cell? ⟨w.heap.size, 3, none⟩ = some (.int .i64 L.flash) ∧ w'.cell? ⟨w.heap.size, 4, none⟩ = some (.int .i64 L.ram) ∧ w'.cell? ⟨w.heap.size, 5, none⟩ = some (.slice a5 ts.length c5) ∧ w'.cell? ⟨w.heap.size + 1, 0, none⟩ = some (.int .i64 tm) ∧ w'.cell? ⟨w.heap.size + 1, 1, none⟩ = some (.int .i64 tb) ∧ w'.cell? ⟨w.heap.size + 1, 2, none⟩ = some (.int .i64 tt)) (go_keep)
    (first
      | (go_at_call 12; first
          | with_reducible refine (HTZ.out v1 _ HBK.out.1 (zb_new #[] 158 v1)).mono ?_
          | with_reducible refine (HTZ.out v1 _ HBK.out.1 (zb_new #[] 158 v1).drew).mono ?_
         rintro e xw2 ⟨rfl, xwm2, hY2⟩
         try simp only [World.size_alloc, drew_sz2] at hY2
         have xwY2 := hide hY2
         clear hY2
         obtain ⟨⟨xwd0, xwd1, xwd2, xwd3, xwd4, xwd5⟩, xwd6, xwd7, xwd8⟩ := HCL.out xw2 xwY2.out.z.1)
      | (go_at_call 13; first
          | with_reducible refine (HYZ.out v1 _ _ _ HBK.out.1 xwY2.out).mono ?_
          | with_reducible refine (HYZ.out v1 _ _ _ HBK.out.1 xwY2.out.drew).mono ?_
         rintro e xw3 ⟨b0, d0, ys, b2, d2, b5, d5, us, rfl, hY3⟩
         have xwY3 := hide hY3
         clear hY3
         obtain ⟨⟨xwe0, xwe1, xwe2, xwe3, xwe4, xwe5⟩, xwe6, xwe7, xwe8⟩ := HCL.out xw3 xwY3.out.z.z.1)
      | (go_at_call 30; first
          | with_reducible refine (HTT.out v1 _ _ _ _ _ _ _ _ _ _ _ xwY3.out).mono ?_
          | with_reducible refine (HTT.out v1 _ _ _ _ _ _ _ _ _ _ _ xwY3.out.drew).mono ?_
         rintro e xw4 ⟨rfl, hY4⟩
         have xwY4 := hide hY4
         clear hY4
         obtain ⟨⟨xwf0, xwf1, xwf2, xwf3, xwf4, xwf5⟩, xwf6, xwf7, xwf8⟩ := HCL.out xw4 xwY4.out.z.z.1)
      | (go_at_call 29; first
          | with_reducible refine (HSZ.out v1 _ _ _ _ _ _ _ _ _ _ _ xwY4.out).mono ?_
          | with_reducible refine (HSZ.out v1 _ _ _ _ _ _ _ _ _ _ _ xwY4.out.drew).mono ?_
         rintro e xw5 ⟨pa, pq, rfl, hY5⟩
         have xwY5 := hide hY5
         clear hY5
         obtain ⟨⟨xwg0, xwg1, xwg2, xwg3, xwg4, xwg5⟩, xwg6, xwg7, xwg8⟩ := HCL.out xw5 xwY5.out.1))
  generalize xw5 = W5 at *
  have HKp := hide (show Kn #[.slice a0 xs.length c0, .int .i64 L.stack, .slice a2 L.slots.length c2, .int .i64 L.flash, .int .i64 L.ram, .slice a5 ts.length c5] 27 #[.int .i64 tm, .int .i64 tb, .int .i64 tt] 67 v1.heap.size R w W5 pa rn pq W5 from ⟨HBK.out.1.trans (xwY5.out.1.mono HBK.out.1.size), HBK.out.2.1.below xwY5.out.1, HBK.out.2.2.below xwY5.out.1, xwY5.out.2, xwY5.out.2, Nat.lt_of_lt_of_le hw1 xwY5.out.1.size, Nat.le_refl _⟩)
  generalize v1.heap.size = base at HKp
  clear hw1 HBK HCL HSZ HSP x0 x1 x2 x3 x4 x5 x6 x7 x8 xwY2 xwY3 xwY4 xwY5 xwd0 xwd1 xwd2 xwd3 xwd4 xwd5 xwd6 xwd7 xwd8 xwe0 xwe1 xwe2 xwe3 xwe4 xwe5 xwe6 xwe7 xwe8 xwf0 xwf1 xwf2 xwf3 xwf4 xwf5 xwf6 xwf7 xwf8 xwg0 xwg1 xwg2 xwg3 xwg4 xwg5 xwg6 xwg7 xwg8
  go_wp2_with fail
  refine (HT.out W5 HKp.out.be).mono ?_
  rintro e w6 ⟨rfl, ⟨mx, lx, rx⟩, hb6⟩
  have K6 := HKp.out.below hb6
  have hs6 : W5.heap.size < w6.heap.size := by obtain ⟨⟨cur, hc, _⟩, _⟩ := rx; exact hc.lt
  have HRX := hide rx
  clear hb6 rx
  obtain ⟨x0, x1, x2, x3, x4, x5⟩ := K6.kc.ly6
  go_wp2_with fail
  refine (HTL.out w6 K6.be).mono ?_
  rintro e w7 ⟨hb7, e0, f0, zs, e2, f2, e5, f5, vs, rfl, Y7⟩
  have hA7 : Below w7.heap.size w7 (w7.alloc (.cells #[.slice e0 zs.length f0, .int .i64 L.stack, .slice e2 L.slots.length f2, .int .i64 L.flash, .int .i64 L.ram, .slice e5 vs.length f5] 36)) := (Below.refl _ _).alloc (Nat.le_refl _) _
  have k7 := Blk.new w7 #[.slice e0 zs.length f0, .int .i64 L.stack, .slice e2 L.slots.length f2, .int .i64 L.flash, .int .i64 L.ram, .slice e5 vs.length f5] 36
  have K7 := (K6.below hb7).below hA7
  have B7 := hb7.trans (hA7.mono hb7.size)
  have hs7 := hb7.size
  have HY7 := hide Y7
  have Y8 := Y7.below' hA7
  clear K6 hb7 hA7 Y7 x0 x1 x2 x3 x4 x5
  have hsA : (w7.alloc (.cells #[.slice e0 zs.length f0, .int .i64 L.stack, .slice e2 L.slots.length f2, .int .i64 L.flash, .int .i64 L.ram, .slice e5 vs.length f5] 36)).heap.size = w7.heap.size + 1 := by simp
  go_wp2_with fail
  generalize w7.alloc (.cells #[.slice e0 zs.length f0, .int .i64 L.stack, .slice e2 L.slots.length f2, .int .i64 L.flash, .int .i64 L.ram, .slice e5 vs.length f5] 36) = W7 at *
  generalize hg7 : w7.heap.size = g7 at *
  have HG7 := hide hg7
  clear hg7
  have HA7 := hide (And.intro K7 (And.intro B7 (And.intro k7 Y8)))
  clear K7 B7 k7 Y8
  have HC7 := hide (fun (X : World) (hb : Below W7.heap.size W7 X) => And.intro (HA7.out.2.2.1.below hb).ly6 (HA7.out.1.kt.below hb).tg3)
  have HT7 := hide (fun (X : World) (hb : Below W7.heap.size W7 X) => (toTarget_any tm tb tt X).mono (fun e w' he => show e = .returned (.agg #[.int .i64 tm, .int .i64 tb, .int .i64 tt]) ∧ Below W7.heap.size W7 w' from ⟨he.1, hb.trans (he.2.mono hb.size)⟩))
  have HI7 := hide (fun (X : World) (hb : Below W7.heap.size W7 X) => (HIM.out _ mx X ((HRX.out.below HA7.out.2.1).below hb) lx e0 f0 zs e2 f2 e5 f5 vs _ (HA7.out.2.2.2.below' hb)).mono (fun e w' he => show ∃ ra rq, e = .returned (.tuple #[.slice ra rn rq, .bool ok]) ∧ Below W7.heap.size W7 w' ∧ ORg w' W7.heap.size (.slice ra rn rq) R from by
    obtain ⟨hb2, ra, rq, e1, O⟩ := he
    exact ⟨ra, rq, e1, hb.trans (hb2.mono hb.size), org_mono O hb.size⟩))
  obtain ⟨⟨x0, x1, x2, x3, x4, x5⟩, x6, x7, x8⟩ := HC7.out _ (Below.refl _ _)
  go_region_held3 (fun w' => w'.cell? ⟨g7, 0, none⟩ = some (.slice e0 zs.length f0) ∧ w'.cell? ⟨g7, 1, none⟩ = some (.int .i64 L.stack) ∧ w'.cell? ⟨g7, 2, none⟩ = some (.slice e2 L.slots.length f2) ∧ w'.cell? ⟨g7, 3, none⟩ = some (.int .i64 L.flash) ∧ w'.cell? ⟨g7, 4, none⟩ = some (.int .i64 L.ram) ∧ w'.cell? ⟨g7, 5, none⟩ = some (.slice e5 vs.length f5) ∧ w'.cell? ⟨w.heap.size + 1, 0, none⟩ = some (.int .i64 tm) ∧ w'.cell? ⟨w.heap.size + 1, 1, none⟩ = some (.int .i64 tb) ∧ w'.cell? ⟨w.heap.size + 1, 2, none⟩ = some (.int .i64 tt)) (go_keep)
    (first
      | (go_at_call 30; first
          | with_reducible refine (HT7.out _ (Below.refl _ _)).mono ?_
          | with_reducible refine (HT7.out _ (Below.refl _ _).drew).mono ?_
         rintro e w71 ⟨rfl, hb71⟩
         have HB71 := hide hb71
         clear hb71
         obtain ⟨⟨u0, u1, u2, u3, u4, u5⟩, u6, u7, u8⟩ := HC7.out _ HB71.out)
      | (go_at_call 31; first
          | with_reducible refine (HI7.out _ HB71.out).mono ?_
          | with_reducible refine (HI7.out _ HB71.out.drew).mono ?_
         rintro e w8 ⟨ra, rq, rfl, hY8⟩
         have HQ8 := hide hY8
         clear hY8
         obtain ⟨⟨y0, y1, y2, y3, y4, y5⟩, y6, y7, y8⟩ := HC7.out _ HQ8.out.1))
  obtain ⟨K7, B7, k7, Y8⟩ := HA7.out
  have hb8 := HQ8.out.1
  have O9 := HQ8.out.2
  have HO8 := hide O9
  have K8 := K7.below hb8
  have B8 := B7.trans (hb8.mono B7.size)
  have kx8 := k7.below hb8
  have Y9 := Y8.below' hb8
  have hs8 := hb8.size
  clear K7 B7 k7 Y8 hb8 HA7 HC7 HT7 HI7 HQ8 HB71 x0 x1 x2 x3 x4 x5 x6 x7 x8 u0 u1 u2 u3 u4 u5 u6 u7 u8 y0 y1 y2 y3 y4 y5 y6 y7 y8
  go_wp2_with fail
  refine (eqRegionS_same ra pa rn rq pq R _ (or_rs O9) (or_rs K8.mw)).mono ?_
  rintro e w9 ⟨rfl, hb9⟩
  have K9 := K8.below hb9
  have B9 := B8.trans (hb9.mono B8.size)
  have kx9 := kx8.below hb9
  have Y9' := Y9.below' hb9
  have O9' := O9.bl hb9
  clear K8 B8 kx8 Y9 O9 hb9
  go_wp2_with fail
  refine (HT.out w9 K9.be).mono ?_
  rintro e w10 ⟨rfl, ⟨my, ly, ry⟩, hb10⟩
  have K10 := K9.below hb10
  have B10 := B9.trans (hb10.mono B9.size)
  have kx10 := kx9.below hb10
  have Y10 := Y9'.below' hb10
  have O10 := O9'.bl hb10
  clear K9 B9 kx9 Y9' O9' hb10
  go_wp2_with fail
  refine (eqModuleS_same _ _ n n n mx my _ ((HRX.out.below B10).ms lx HH.out) (ry.ms ly HH.out) (RowM.same HH.out (HRX.out.below B10) lx ry ly)).mono ?_
  rintro e w11 ⟨rfl, hb11⟩
  have K11 := K10.below hb11
  have B11 := B10.trans (hb11.mono B10.size)
  have kx11 := kx10.below hb11
  have Y11 := Y10.below' hb11
  have O11 := O10.bl hb11
  clear K10 B10 kx10 Y10 O10 hb11 ry
  have HA11 := hide (And.intro K11 (And.intro B11 (And.intro kx11 (And.intro Y11 O11))))
  have HCX := hide (fun (W : World) (hb : Below w11.heap.size w11 W) => And.intro (HA11.out.1.kc.below hb).ly6 (HA11.out.2.2.1.below hb).ly6)
  obtain ⟨⟨x0, x1, x2, x3, x4, x5⟩, ⟨y0, y1, y2, y3, y4, y5⟩⟩ := HCX.out _ (Below.refl _ _)
  have HTX := hide (fun (X : World) (hb : Below w11.heap.size w11 X) => (HTL.out X (HA11.out.1.be.trans (hb.mono HA11.out.1.be.size))).mono (fun e w' he => show ∃ b0 d0 ys b2 d2 b5 d5 us, e = .returned (.agg #[.slice b0 ys.length d0, .int .i64 L.stack, .slice b2 L.slots.length d2, .int .i64 L.flash, .int .i64 L.ram, .slice b5 us.length d5]) ∧ Below w11.heap.size w11 w' ∧ LayO w' X.heap.size L b0 d0 ys b2 d2 b5 d5 us from by
    obtain ⟨hb2, b0, d0, ys, b2, d2, b5, d5, us, e1, y⟩ := he
    exact ⟨b0, d0, ys, b2, d2, b5, d5, us, e1, hb.trans (hb2.mono hb.size), y⟩))
  clear K11 B11 kx11 Y11 O11
  go_wp2_with fail
  go_region_held3 (fun w' => w'.cell? ⟨w.heap.size, 0, none⟩ = some (.slice a0 xs.length c0) ∧ w'.cell? ⟨w.heap.size, 1, none⟩ = some (.int .i64 L.stack) ∧ w'.cell? ⟨w.heap.size, 2, none⟩ = some (.slice a2 L.slots.length c2) ∧ w'.cell? ⟨w.heap.size, 3, none⟩ = some (.int .i64 L.flash) ∧ w'.cell? ⟨w.heap.size, 4, none⟩ = some (.int .i64 L.ram) ∧ w'.cell? ⟨w.heap.size, 5, none⟩ = some (.slice a5 ts.length c5) ∧ w'.cell? ⟨g7, 0, none⟩ = some (.slice e0 zs.length f0) ∧ w'.cell? ⟨g7, 1, none⟩ = some (.int .i64 L.stack) ∧ w'.cell? ⟨g7, 2, none⟩ = some (.slice e2 L.slots.length f2) ∧ w'.cell? ⟨g7, 3, none⟩ = some (.int .i64 L.flash) ∧ w'.cell? ⟨g7, 4, none⟩ = some (.int .i64 L.ram) ∧ w'.cell? ⟨g7, 5, none⟩ = some (.slice e5 vs.length f5)) (go_keep)
    (first
      | (go_at_call 13; first
          | with_reducible refine (HTX.out _ (Below.refl _ _)).mono ?_
          | with_reducible refine (HTX.out _ (Below.refl _ _).drew).mono ?_
         rintro e j2 ⟨b0, d0, ys, b2, d2, b5, d5, us, rfl, hj2, yj2⟩
         have HJ2 := hide (And.intro hj2 yj2)
         clear hj2 yj2
         obtain ⟨⟨u0', u1', u2', u3', u4', u5'⟩, ⟨v0', v1', v2', v3', v4', v5'⟩⟩ := HCX.out _ HJ2.out.1)
      | (go_at_call 16; refine (eqLayout_same HR.out (HA11.out.2.2.2.1.below' HJ2.out.1) HJ2.out.2).mono ?_
         rintro e j3 ⟨rfl, hj3⟩
         have HJ3 := hide (HJ2.out.1.trans (hj3.mono HJ2.out.1.size))
         clear hj3
         obtain ⟨⟨u0'', u1'', u2'', u3'', u4'', u5''⟩, ⟨v0'', v1'', v2'', v3'', v4'', v5''⟩⟩ := HCX.out _ HJ3.out))
  clear x0 x1 x2 x3 x4 x5 y0 y1 y2 y3 y4 y5 u0' u1' u2' u3' u4' u5' v0' v1' v2' v3' v4' v5' u0'' u1'' u2'' u3'' u4'' u5'' v0'' v1'' v2'' v3'' v4'' v5''
  have hj3 := HJ3.out
  obtain ⟨K11, B11, kx11, Y11, O11⟩ := HA11.out
  have K12 := K11.below hj3
  have B12 := B11.trans (hj3.mono B11.size)
  have kx12 := kx11.below hj3
  have Y12 := Y11.below' hj3
  have O12 := O11.bl hj3
  clear K11 B11 kx11 Y11 O11 hj3 HJ3 HJ2 HA11 HCX HTX
  obtain ⟨z1, z2, z3⟩ := rowm_cnt HRX.out lx HH.out HZS.out
  have z4 := rowm_cnt3 HRX.out lx HH.out
  rw [← HQ1.out] at z4
  have HMK := hide (markModuleS_sl (Sm w6 W5.heap.size) W5.heap.size n n 1 mx (fun i => bnF (mx.getD i zMd)) j3 ((rowm_mrs HRX.out lx HH.out).kept (Mkd.below B12)) (by omega) z2 z3 hn)
  obtain ⟨KM, hKM⟩ : ∃ KM, KM = 1 + upS (cntM mx (fun i => bnF (mx.getD i zMd))) n := ⟨_, rfl⟩
  rw [← hKM] at HMK
  have hKB : KM ≤ 1 + 3 * Q1 := by omega
  clear hKM z1 z2 z3 z4
  have HKB := hide (And.intro K12 (And.intro kx12 (And.intro Y12 O12)))
  clear K12 B12 kx12 Y12 O12
  go_wp2_with fail
  refine HMK.out.mono ?_
  rintro e w12 ⟨rfl, M12⟩
  have hg7 := HG7.out
  obtain ⟨K12, kx12, Y12, O12⟩ := HKB.out
  have K13 := K12.turn M12.turn (fun j hj => by rcases hj with hj | hj; exact Nat.le_of_lt hj.1; omega)
  have kx13 := turn_blk M12.turn kx12 (fun hs => by rcases hs with hs | hs; have := hs.2.1; omega; omega)
  have Y13 := Y12.kept M12.turn (fun j hj _ hs => by rcases hs with hs | hs; have := hs.2.1; omega; omega)
  have O13 := turn_or' M12.turn O12 (fun j hj hs => by have := or_rowle HO8.out j hj; rcases hs with hs | hs; have := hs.2.1; omega; omega)
  clear K12 kx12 Y12 O12 M12 HMK HKB
  have hzs : zs.map (fun x => x.1) = xs.map (fun x => x.1) := Y13.ps.trans HHL.out.ps.symm
  have hvs : vs.map (fun x => x.1) = ts.map (fun x => x.1) := Y13.tt.trans HHL.out.tt.symm
  have hsz : lySz L zs vs = lySz L xs ts := lySz_eq hzs hvs
  have HBN := hide (show zs.length ≤ 1048576 ∧ (∀ i, i < zs.length → (plF zs i).2.1 ≤ 1048576) ∧ L.slots.length ≤ 1048576 ∧ vs.length ≤ 1048576 ∧ (∀ i, i < vs.length → (tbF vs i).1.length ≤ 1048576) ∧ KM + sumP (plF zs) zs.length + L.slots.length + sumT (tbF vs) vs.length ≤ 4194304 from by
    have h1 := HQS.out
    have h2 := sumP_le3 zs zs.length
    have h3 := sumT_le3 vs vs.length
    rw [← hsz] at h1
    unfold lySz plSz tsSz at h1
    refine ⟨by omega, fun i hi => ?_, by omega, by omega, fun i hi => ?_, by omega⟩
    · have h4 := upS_le (fun j => (zs.getD j zPB).1.banks.length) zs.length i hi
      show (zs.getD i zPB).1.banks.length ≤ _
      omega
    · have h4 := upS_le (fun j => (vs.getD j zTB).1.length) vs.length i hi
      show (vs.getD i zTB).1.length ≤ _
      omega)
  clear hzs hvs hsz
  have HML := hide (markLayout_big e0 zs.length f0 L.stack e2 L.slots.length f2 L.flash L.ram e5 vs.length f5 KM w6.heap.size (plF zs) (plV zs) (plX zs) L.slots (tbF vs) (tbX vs) w12 (Y13.y3 HR.out) HBN.out.1 HBN.out.2.1 HBN.out.2.2.1 HBN.out.2.2.2.1 HBN.out.2.2.2.2.1 HBN.out.2.2.2.2.2)
  have HSY := hide (fun j (hj : Sy e0 zs.length (plF zs) (.slice e2 L.slots.length f2) vs.length (tbF vs) j) => (HY7.out.y3 HR.out).lt hj)
  obtain ⟨QM, hQM⟩ : ∃ QM, QM = KM + sumP (plF zs) zs.length + L.slots.length + sumT (tbF vs) vs.length := ⟨_, rfl⟩
  rw [← hQM] at HML
  have hQ0 : ¬ ((QM : Int) < 0) := by omega
  clear hQM
  obtain ⟨x0, x1, x2, x3, x4, x5⟩ := kx13.ly6
  have HKB := hide (And.intro K13 O13)
  clear K13 kx13 O13 Y13
  go_wp2_with fail
  refine HML.out.mono ?_
  rintro e w13 ⟨rfl, _, T13⟩
  obtain ⟨K13, O13⟩ := HKB.out
  have K14 := K13.turn T13 (fun j hj => by have := HSY.out j hj; omega)
  have O14 := turn_or' T13 O13 (fun j hj hs => by have := HSY.out _ hs; have := or_rowle HO8.out j hj; omega)
  clear K13 O13 T13 HML HKB HSY x0 x1 x2 x3 x4 x5
  go_wp2_with fail
  refine (eqRegionS_same ra pa rn rq pq R _ (or_rs O14) (or_rs K14.mw)).mono ?_
  rintro e w14 ⟨rfl, hb14⟩
  have K15 := K14.below hb14
  have O15 := O14.bl hb14
  clear K14 O14 hb14
  have HKB := hide K15
  have HMM := hide (markRegionS_any ra rn rq W7.heap.size R 1 w14 O15 (by omega) (by omega))
  clear K15 O15
  have HMH := hide (fun (W : World) (h1 : RS W ra rn rq (marksR 1 rn)) => heldRegionS_any ra rn rq 1 W h1 (by omega) (by omega))
  generalize 1 + 6 * rn = QQ at HMM HMH
  have hQQ0 : ¬ ((QQ : Int) < 0) := by omega
  have hQQn : ((QQ : Int) != (QQ : Int)) = false := by simp
  go_wp2_with fail
  refine HMM.out.mono ?_
  rintro e w15 ⟨rfl, O16, T15⟩
  have K16 := HKB.out.turn T15 (fun j hj => by have := hj.1; have := HKp.out.n5; omega)
  have HO16 := hide O16
  have HKB2 := hide K16
  clear O16 K16 T15 HMM HKB
  go_wp2_with fail
  refine (HMH.out w15 HO16.out).mono ?_
  rintro e w16 ⟨rfl, hw16⟩
  subst hw16
  have HKp17 := hide HKB2.out
  clear HKB2 HO16 HMH
  have hw17 : w.heap.size + 1 < w15.heap.size := HKp17.out.kt.lt
  have HCL2 := hide (fun (W : World) (hb : Below w15.heap.size w15 W) => And.intro (HKp17.out.kc.below hb).ly6 (HKp17.out.kt.below hb).tg3)
  obtain ⟨⟨x0, x1, x2, x3, x4, x5⟩, x6, x7, x8⟩ := HCL2.out _ (Below.refl _ _)
  clear HRX HG7 hg7 HKp hs6 hs7 hs8 HY7 HO8 HBN hKB hsA
  go_wp2_with fail
  go_region_held3 (fun w' => w'.cell? ⟨w.heap.size, 0, none⟩ = some (.slice a0 xs.length c0) ∧ w'.cell? ⟨w.heap.size, 1, none⟩ = some (.int .i64 L.stack) ∧ w'.cell? ⟨w.heap.size, 2, none⟩ = some (.slice a2 L.slots.length c2) ∧ w'.cell? ⟨w.heap.size, 3, none⟩ = some (.int .i64 L.flash) ∧ w'.cell? ⟨w.heap.size, 4, none⟩ = some (.int .i64 L.ram) ∧ w'.cell? ⟨w.heap.size, 5, none⟩ = some (.slice a5 ts.length c5) ∧ w'.cell? ⟨w.heap.size + 1, 0, none⟩ = some (.int .i64 tm) ∧ w'.cell? ⟨w.heap.size + 1, 1, none⟩ = some (.int .i64 tb) ∧ w'.cell? ⟨w.heap.size + 1, 2, none⟩ = some (.int .i64 tt)) (go_keep)
    (first
      | (go_at_call 12; first
          | with_reducible refine (HTZ.out w15 _ HKp17.out.be (zb_new #[] 158 w15)).mono ?_
          | with_reducible refine (HTZ.out w15 _ HKp17.out.be (zb_new #[] 158 w15).drew).mono ?_
         rintro e qq2 ⟨rfl, qqm2, hY2⟩
         try simp only [World.size_alloc, drew_sz2] at hY2
         have qqY2 := hide hY2
         clear hY2
         obtain ⟨⟨qqd0, qqd1, qqd2, qqd3, qqd4, qqd5⟩, qqd6, qqd7, qqd8⟩ := HCL2.out qq2 qqY2.out.z.1)
      | (go_at_call 13; first
          | with_reducible refine (HYZ.out w15 _ _ _ HKp17.out.be qqY2.out).mono ?_
          | with_reducible refine (HYZ.out w15 _ _ _ HKp17.out.be qqY2.out.drew).mono ?_
         rintro e qq3 ⟨b0, d0, ys, b2, d2, b5, d5, us, rfl, hY3⟩
         have qqY3 := hide hY3
         clear hY3
         obtain ⟨⟨qqe0, qqe1, qqe2, qqe3, qqe4, qqe5⟩, qqe6, qqe7, qqe8⟩ := HCL2.out qq3 qqY3.out.z.z.1)
      | (go_at_call 30; first
          | with_reducible refine (HTT.out w15 _ _ _ _ _ _ _ _ _ _ _ qqY3.out).mono ?_
          | with_reducible refine (HTT.out w15 _ _ _ _ _ _ _ _ _ _ _ qqY3.out.drew).mono ?_
         rintro e qq4 ⟨rfl, hY4⟩
         have qqY4 := hide hY4
         clear hY4
         obtain ⟨⟨qqf0, qqf1, qqf2, qqf3, qqf4, qqf5⟩, qqf6, qqf7, qqf8⟩ := HCL2.out qq4 qqY4.out.z.z.1)
      | (go_at_call 31; first
          | with_reducible refine (HIZ.out w15 _ _ _ _ _ _ _ _ _ _ _ qqY4.out).mono ?_
          | with_reducible refine (HIZ.out w15 _ _ _ _ _ _ _ _ _ _ _ qqY4.out.drew).mono ?_
         rintro e qq5 ⟨ha, hq, rfl, hY5⟩
         have qqY5 := hide hY5
         clear hY5
         obtain ⟨⟨qqg0, qqg1, qqg2, qqg3, qqg4, qqg5⟩, qqg6, qqg7, qqg8⟩ := HCL2.out qq5 qqY5.out.1))
  have K18 := HKp17.out.below qqY5.out.1
  have O18 := qqY5.out.2
  clear hw17 HCL2 HKp17 x0 x1 x2 x3 x4 x5 x6 x7 x8 qqY2 qqY3 qqY4 qqY5 qqd0 qqd1 qqd2 qqd3 qqd4 qqd5 qqd6 qqd7 qqd8 qqe0 qqe1 qqe2 qqe3 qqe4 qqe5 qqe6 qqe7 qqe8 qqf0 qqf1 qqf2 qqf3 qqf4 qqf5 qqf6 qqf7 qqf8 qqg0 qqg1 qqg2 qqg3 qqg4 qqg5 qqg6 qqg7 qqg8
  go_wp2_with fail
  refine (eqRegionS_same ha pa rn hq pq R _ (or_rs O18) (or_rs K18.mw)).mono ?_
  rintro e w19 ⟨rfl, hb19⟩
  have HB := hide (K18.below hb19).be
  clear K18 O18 hb19
  go_wp2
  go_ret
  exact ⟨rfl, HB.out⟩
end Go.Proofs.YtngdgogjlpjjpaeGreat
