import Derived.Test.YtngdgogjlpjjpaeGreatGc01
import Derived.Test.YtngdgogjlpjjpaeGreatGa35
import Derived.Deep.RegionHeld3
namespace Go.Proofs.YtngdgogjlpjjpaeGreat
open Go.RowKit Classical
set_option linter.unusedVariables false
set_option linter.unusedSimpArgs false
set_option maxRecDepth 100000

set_option maxHeartbeats 16000000 in
theorem exactFits_walk (a : Option Addr) (n cap : Nat) (ms : List Md) (L : Lay) (a0 : Option Addr) (c0 : Nat) (xs : List PB) (a2 : Option Addr) (c2 : Nat) (a5 : Option Addr) (c5 : Nat) (ts : List TB) (w : World) (h : MS w a n cap ms) (hL : LyT w L a0 c0 xs a2 c2 a5 c5 ts) :
    Calls Tryz.prog 3 #[.slice a n cap, .agg #[.slice a0 xs.length c0, .int .i64 L.stack, .slice a2 L.slots.length c2, .int .i64 L.flash, .int .i64 L.ram, .slice a5 ts.length c5]] w fun e w' => e = .returned (.bool true) ∧ Below w.heap.size w w' := by
  have HS := hide (fun w h => szModuleS_any a n cap ms 1048576 w h (by omega) (by omega))
  obtain ⟨U, hU⟩ : ∃ U, U = w.alloc (.cells #[.slice a0 xs.length c0, .int .i64 L.stack, .slice a2 L.slots.length c2, .int .i64 L.flash, .int .i64 L.ram, .slice a5 ts.length c5] 27) := ⟨_, rfl⟩
  have HB0 : Below w.heap.size w U := by rw [hU]; exact (Below.refl _ _).alloc (Nat.le_refl _) _
  have k0 : Blk U w.heap.size #[.slice a0 xs.length c0, .int .i64 L.stack, .slice a2 L.slots.length c2, .int .i64 L.flash, .int .i64 L.ram, .slice a5 ts.length c5] 27 := by rw [hU]; exact Blk.new w _ _
  have HU := hide hU
  clear hU
  obtain ⟨Q1, hQ1⟩ : ∃ Q1, Q1 = n + upS (fun j => (ms.getD j zMd).size) n := ⟨_, rfl⟩
  rw [← hQ1] at HS
  have HQ1 := hide hQ1
  clear hQ1
  by_cases hz : 1048576 < Q1
  · rw [show szR 1048576 Q1 = -1 by unfold szR; rw [if_pos (by omega)]] at HS
    go_enter Tryz.func3, Tryz.ntmps3
    go_wp2_with (rw [← HU.out])
    refine (HS.out _ (h.below HB0)).mono ?_
    rintro e w1 ⟨rfl, hb1⟩
    go_wp2
    go_ret
    exact ⟨rfl, HB0.trans (hb1.mono HB0.size)⟩
  obtain ⟨Z, hZ⟩ : ∃ Z : Int, Z = 1048576 - (Q1 : Int) := ⟨_, rfl⟩
  rw [show szR 1048576 Q1 = Z by unfold szR; rw [if_neg (by omega)]; omega] at HS
  have hZ0 : ¬ Z < 0 := by omega
  have hZ1 : Z ≤ 1048576 := by omega
  have HZE := hide hZ
  clear hZ
  have HSL := hide (fun (W : World) (hb : Below w.heap.size w W) => szLayout_any L a0 c0 xs a2 c2 a5 c5 ts Z W (hL.below hb) (by omega) (by omega))
  by_cases hy : Z < (lySz L xs ts : Int)
  · rw [show szR Z (lySz L xs ts) = -1 by unfold szR; rw [if_pos hy]] at HSL
    go_enter Tryz.func3, Tryz.ntmps3
    go_wp2_with (rw [← HU.out])
    refine (HS.out _ (h.below HB0)).mono ?_
    rintro e w1 ⟨rfl, hb1⟩
    have B1 := HB0.trans (hb1.mono HB0.size)
    have k1 := k0.below hb1
    obtain ⟨x0, x1, x2, x3, x4, x5⟩ := k1.ly6
    go_wp2_with fail
    refine (HSL.out _ B1).mono ?_
    rintro e w2 ⟨rfl, hb2⟩
    go_wp2
    go_ret
    exact ⟨rfl, B1.trans (hb2.mono B1.size)⟩
  obtain ⟨Z2', hZ2⟩ : ∃ Z2' : Int, Z2' = szR Z (lySz L xs ts) := ⟨_, rfl⟩
  rw [← hZ2] at HSL
  have hZ20 : ¬ Z2' < 0 := by rw [hZ2]; unfold szR; rw [if_neg hy]; omega
  clear hZ2
  have HQS := hide (show Q1 + lySz L xs ts ≤ 1048576 by have := HZE.out; omega)
  have HZ := hide (show ∀ i, i < n → (ms.getD i zMd).size ≤ 1048576 from fun i hi => by have := upS_le (fun j => (ms.getD j zMd).size) n i hi; have := HQ1.out; omega)
  have hn : n ≤ 1048576 := by have := HQ1.out; omega
  have HLS := hide (show lySz L xs ts ≤ 1048576 by have := HQS.out; omega)
  have HR := hide (hL.lr HLS.out)
  have HV := hide hL.v
  clear hz hy
  have HT := hide (fun (W : World) (hb : Below w.heap.size w W) => toModuleS_any a n cap ms W (h.below hb) hn HZ.out)
  have HTL := hide (fun (W : World) (hb : Below w.heap.size w W) => show Calls Tryz.prog 13 #[.agg #[.slice a0 xs.length c0, .int .i64 L.stack, .slice a2 L.slots.length c2, .int .i64 L.flash, .int .i64 L.ram, .slice a5 ts.length c5]] W fun e w' => Below W.heap.size W w' ∧ ∃ b0 d0 ys b2 d2 b5 d5 us, e = .returned (.agg #[.slice b0 ys.length d0, .int .i64 L.stack, .slice b2 L.slots.length d2, .int .i64 L.flash, .int .i64 L.ram, .slice b5 us.length d5]) ∧ LayO w' W.heap.size L b0 d0 ys b2 d2 b5 d5 us from toLayout_any L a0 c0 xs a2 c2 a5 c5 ts W (hL.below hb) HLS.out)
  obtain ⟨ps, hps⟩ : ∃ ps, ps = pmS ms := ⟨_, rfl⟩
  obtain ⟨ok, hok⟩ : ∃ ok : Bool, ok = true ↔ FitP ps L := by
    by_cases c : FitP ps L
    · exact ⟨true, by simp [c]⟩
    · exact ⟨false, by simp [c]⟩
  have HSP := hide (fun (g : Nat) (m : List Md) (W : World) (r : RowM W g n ms m) (hl : m.length = n) (b0 : Option Addr) (d0 : Nat) (ys : List PB) (b2 : Option Addr) (d2 : Nat) (b5 : Option Addr) (d5 : Nat) (us : List TB) (b : Nat) (y : LayO W b L b0 d0 ys b2 d2 b5 d5 us) => show Calls Tryz.prog 11 #[.slice (some ⟨g, 0, none⟩) n n, .agg #[.slice b0 ys.length d0, .int .i64 L.stack, .slice b2 L.slots.length d2, .int .i64 L.flash, .int .i64 L.ram, .slice b5 us.length d5]] W fun e w' => e = .returned (.bool ok) ∧ Below W.heap.size W w' from by
    refine (sFits_any (some ⟨g, 0, none⟩) n n m L b0 d0 ys b2 d2 b5 d5 us W (rowm_msd r hl h HZ.out) (y.lyt HR.out HV.out)).mono ?_
    rintro e w' ⟨v, he, hv, hb⟩
    rw [rowm_pms r hl h.1, ← hps] at hv
    have e1 : v = ok := by rw [Bool.eq_iff_iff, hv, hok]
    rw [he, e1]
    exact ⟨rfl, hb⟩)
  have HIM := hide (fun (g : Nat) (m : List Md) (W : World) (r : RowM W g n ms m) (hl : m.length = n) (b0 : Option Addr) (d0 : Nat) (ys : List PB) (b2 : Option Addr) (d2 : Nat) (b5 : Option Addr) (d5 : Nat) (us : List TB) (b : Nat) (y : LayO W b L b0 d0 ys b2 d2 b5 d5 us) => show Calls Tryz.prog 14 #[.slice (some ⟨g, 0, none⟩) n n, .agg #[.slice b0 ys.length d0, .int .i64 L.stack, .slice b2 L.slots.length d2, .int .i64 L.flash, .int .i64 L.ram, .slice b5 us.length d5]] W fun e w' => e = .returned (.bool ok) ∧ Below W.heap.size W w' from by
    refine (iFits_any (some ⟨g, 0, none⟩) n n m L b0 d0 ys b2 d2 b5 d5 us W (rowm_msd r hl h HZ.out) (y.lyt HR.out HV.out)).mono ?_
    rintro e w' ⟨v, he, hv, hb⟩
    rw [rowm_pms r hl h.1, ← hps] at hv
    have e1 : v = ok := by rw [Bool.eq_iff_iff, hv, hok]
    rw [he, e1]
    exact ⟨rfl, hb⟩)
  clear hps hok
  have hokk : (ok != ok) = false := by cases ok <;> rfl
  have HH := hide h
  go_enter Tryz.func3, Tryz.ntmps3
  go_wp2_with (rw [← HU.out])
  refine (HS.out _ (h.below HB0)).mono ?_
  rintro e w1 ⟨rfl, hb1⟩
  have hB1 := HB0.trans (hb1.mono HB0.size)
  have k1 := k0.below hb1
  clear hb1 HB0 k0 HS h HU
  obtain ⟨x0, x1, x2, x3, x4, x5⟩ := k1.ly6
  go_wp2_with fail
  refine (HSL.out _ hB1).mono ?_
  rintro e v1 ⟨rfl, hb1⟩
  have hB2 := hB1.trans (hb1.mono hB1.size)
  have k2 := k1.below hb1
  clear hb1 hB1 k1 HSL x0 x1 x2 x3 x4 x5
  obtain ⟨x0, x1, x2, x3, x4, x5⟩ := k2.ly6
  have HBK := hide (And.intro hB2 k2)
  clear hB2 k2 hL
  have HTZ := hide (fun (W0 X : World) (h0 : Below w.heap.size w W0) (hz : Zb #[] 158 W0 X none) => (HT.out X (h0.trans (hz.1.mono h0.size))).mono (fun e w' he => show e = .returned (.slice (some ⟨X.heap.size, 0, none⟩) n n) ∧ ∃ m, Z2 #[] 158 n ms W0 w' none X.heap.size m from ⟨he.1, by obtain ⟨_, ⟨m, hl, hr⟩, hb⟩ := he; exact ⟨m, hz.below hb, hr, hl⟩⟩))
  have HYZ := hide (fun (W0 X : World) (g : Nat) (m : List Md) (h0 : Below w.heap.size w W0) (hz : Z2 #[] 158 n ms W0 X none g m) => (HTL.out X (h0.trans (hz.z.1.mono h0.size))).mono (fun e w' he => show ∃ b0 d0 ys b2 d2 b5 d5 us, e = .returned (.agg #[.slice b0 ys.length d0, .int .i64 L.stack, .slice b2 L.slots.length d2, .int .i64 L.flash, .int .i64 L.ram, .slice b5 us.length d5]) ∧ Z4 #[] 158 n ms L W0 w' none g m b0 d0 ys b2 d2 b5 d5 us from by
    obtain ⟨hb, b0, d0, ys, b2, d2, b5, d5, us, e1, y⟩ := he
    exact ⟨b0, d0, ys, b2, d2, b5, d5, us, e1, hz.below hb, y.mono hz.z.1.size⟩))
  have HSZ := hide (fun (W0 X : World) (g : Nat) (m : List Md) (b0 : Option Addr) (d0 : Nat) (ys : List PB) (b2 : Option Addr) (d2 : Nat) (b5 : Option Addr) (d5 : Nat) (us : List TB) (hz : Z4 #[] 158 n ms L W0 X none g m b0 d0 ys b2 d2 b5 d5 us) => (HSP.out g m X hz.z.r hz.z.l b0 d0 ys b2 d2 b5 d5 us _ hz.y).mono (fun e w' he => show e = .returned (.bool ok) ∧ Below W0.heap.size W0 w' from ⟨he.1, hz.z.z.1.trans (he.2.mono hz.z.z.1.size)⟩))
  have HCL := hide (fun (W : World) (hb : Below v1.heap.size v1 W) => (HBK.out.2.below hb).ly6)
  go_wp2_with fail
  go_region_held3 (fun w' => w'.cell? ⟨w.heap.size, 0, none⟩ = some (.slice a0 xs.length c0) ∧ w'.cell? ⟨w.heap.size, 1, none⟩ = some (.int .i64 L.stack) ∧ w'.cell? ⟨w.heap.size, 2, none⟩ = some (.slice a2 L.slots.length c2) ∧ w'.cell? ⟨w.heap.size, 3, none⟩ = some (.int .i64 L.flash) ∧ w'.cell? ⟨w.heap.size, 4, none⟩ = some (.int .i64 L.ram) ∧ w'.cell? ⟨w.heap.size, 5, none⟩ = some (.slice a5 ts.length c5)) (go_keep)
    (first
      | (go_at_call 12; first
          | with_reducible refine (HTZ.out v1 _ HBK.out.1 (zb_new #[] 158 v1)).mono ?_
          | with_reducible refine (HTZ.out v1 _ HBK.out.1 (zb_new #[] 158 v1).drew).mono ?_
         rintro e xw2 ⟨rfl, xwm2, hY2⟩
         try simp only [World.size_alloc, drew_sz2] at hY2
         have xwY2 := hide hY2
         clear hY2
         obtain ⟨xwd0, xwd1, xwd2, xwd3, xwd4, xwd5⟩ := HCL.out xw2 xwY2.out.z.1)
      | (go_at_call 13; first
          | with_reducible refine (HYZ.out v1 _ _ _ HBK.out.1 xwY2.out).mono ?_
          | with_reducible refine (HYZ.out v1 _ _ _ HBK.out.1 xwY2.out.drew).mono ?_
         rintro e xw3 ⟨b0, d0, ys, b2, d2, b5, d5, us, rfl, hY3⟩
         have xwY3 := hide hY3
         clear hY3
         obtain ⟨xwe0, xwe1, xwe2, xwe3, xwe4, xwe5⟩ := HCL.out xw3 xwY3.out.z.z.1)
      | (go_at_call 11; first
          | with_reducible refine (HSZ.out v1 _ _ _ _ _ _ _ _ _ _ _ xwY3.out).mono ?_
          | with_reducible refine (HSZ.out v1 _ _ _ _ _ _ _ _ _ _ _ xwY3.out.drew).mono ?_
         rintro e xw4 ⟨rfl, hY4⟩
         have xwY4 := hide hY4
         clear hY4
         obtain ⟨xwf0, xwf1, xwf2, xwf3, xwf4, xwf5⟩ := HCL.out xw4 xwY4.out))
  generalize xw4 = W5 at *
  have HKp := hide (And.intro (HBK.out.1.trans (xwY4.out.mono HBK.out.1.size)) (HBK.out.2.below xwY4.out))
  clear HBK HCL HSZ HSP x0 x1 x2 x3 x4 x5 xwY2 xwY3 xwY4 xwd0 xwd1 xwd2 xwd3 xwd4 xwd5 xwe0 xwe1 xwe2 xwe3 xwe4 xwe5 xwf0 xwf1 xwf2 xwf3 xwf4 xwf5
  go_wp2_with fail
  refine (HT.out W5 HKp.out.1).mono ?_
  rintro e w6 ⟨rfl, ⟨mx, lx, rx⟩, hb6⟩
  have E6 := HKp.out.1.trans (hb6.mono HKp.out.1.size)
  have C6 := HKp.out.2.below hb6
  have HRX := hide rx
  clear hb6 rx HKp
  obtain ⟨x0, x1, x2, x3, x4, x5⟩ := C6.ly6
  go_wp2_with fail
  refine (HTL.out w6 E6).mono ?_
  rintro e w7 ⟨hb7, e0, f0, zs, e2, f2, e5, f5, vs, rfl, Y7⟩
  have hA7 : Below w7.heap.size w7 (w7.alloc (.cells #[.slice e0 zs.length f0, .int .i64 L.stack, .slice e2 L.slots.length f2, .int .i64 L.flash, .int .i64 L.ram, .slice e5 vs.length f5] 36)) := (Below.refl _ _).alloc (Nat.le_refl _) _
  have k7 := Blk.new w7 #[.slice e0 zs.length f0, .int .i64 L.stack, .slice e2 L.slots.length f2, .int .i64 L.flash, .int .i64 L.ram, .slice e5 vs.length f5] 36
  have B7 := hb7.trans (hA7.mono hb7.size)
  have E7 := E6.trans (B7.mono E6.size)
  have C7 := C6.below B7
  have Y8 := Y7.below' hA7
  clear E6 C6 hb7 hA7 Y7 x0 x1 x2 x3 x4 x5
  obtain ⟨x0, x1, x2, x3, x4, x5⟩ := k7.ly6
  go_wp2_with fail
  clear x0 x1 x2 x3 x4 x5
  generalize w7.alloc (.cells #[.slice e0 zs.length f0, .int .i64 L.stack, .slice e2 L.slots.length f2, .int .i64 L.flash, .int .i64 L.ram, .slice e5 vs.length f5] 36) = W7 at *
  generalize w7.heap.size = g7 at *
  refine (HIM.out _ mx W7 (HRX.out.below B7) lx e0 f0 zs e2 f2 e5 f5 vs _ Y8).mono ?_
  rintro e w8 ⟨rfl, hb8⟩
  have E8 := E7.trans (hb8.mono E7.size)
  have C8 := C7.below hb8
  have B8 := B7.trans (hb8.mono B7.size)
  have k8 := k7.below hb8
  have Y9 := Y8.below' hb8
  clear E7 C7 B7 k7 Y8 hb8
  go_wp2_with fail
  refine (HT.out w8 E8).mono ?_
  rintro e w10 ⟨rfl, ⟨my, ly, ry⟩, hb10⟩
  have E10 := E8.trans (hb10.mono E8.size)
  have C10 := C8.below hb10
  have B10 := B8.trans (hb10.mono B8.size)
  have k10 := k8.below hb10
  have Y10 := Y9.below' hb10
  clear E8 C8 B8 k8 Y9 hb10
  go_wp2_with fail
  refine (eqModuleS_same _ _ n n n mx my _ ((HRX.out.below B10).ms lx HH.out) (ry.ms ly HH.out) (RowM.same HH.out (HRX.out.below B10) lx ry ly)).mono ?_
  rintro e w11 ⟨rfl, hb11⟩
  have HA11 := hide (And.intro (E10.trans (hb11.mono E10.size)) (And.intro (C10.below hb11) (And.intro (k10.below hb11) (Y10.below' hb11))))
  clear E10 C10 B10 k10 Y10 hb11 ry HRX
  have HCX := hide (fun (W : World) (hb : Below w11.heap.size w11 W) => And.intro (HA11.out.2.1.below hb).ly6 (HA11.out.2.2.1.below hb).ly6)
  obtain ⟨⟨x0, x1, x2, x3, x4, x5⟩, ⟨y0, y1, y2, y3, y4, y5⟩⟩ := HCX.out _ (Below.refl _ _)
  have HTX := hide (fun (X : World) (hb : Below w11.heap.size w11 X) => (HTL.out X (HA11.out.1.trans (hb.mono HA11.out.1.size))).mono (fun e w' he => show ∃ b0 d0 ys b2 d2 b5 d5 us, e = .returned (.agg #[.slice b0 ys.length d0, .int .i64 L.stack, .slice b2 L.slots.length d2, .int .i64 L.flash, .int .i64 L.ram, .slice b5 us.length d5]) ∧ Below w11.heap.size w11 w' ∧ LayO w' X.heap.size L b0 d0 ys b2 d2 b5 d5 us from by
    obtain ⟨hb2, b0, d0, ys, b2, d2, b5, d5, us, e1, y⟩ := he
    exact ⟨b0, d0, ys, b2, d2, b5, d5, us, e1, hb.trans (hb2.mono hb.size), y⟩))
  go_wp2_with fail
  go_region_held3 (fun w' => w'.cell? ⟨w.heap.size, 0, none⟩ = some (.slice a0 xs.length c0) ∧ w'.cell? ⟨w.heap.size, 1, none⟩ = some (.int .i64 L.stack) ∧ w'.cell? ⟨w.heap.size, 2, none⟩ = some (.slice a2 L.slots.length c2) ∧ w'.cell? ⟨w.heap.size, 3, none⟩ = some (.int .i64 L.flash) ∧ w'.cell? ⟨w.heap.size, 4, none⟩ = some (.int .i64 L.ram) ∧ w'.cell? ⟨w.heap.size, 5, none⟩ = some (.slice a5 ts.length c5) ∧ w'.cell? ⟨g7, 0, none⟩ = some (.slice e0 zs.length f0) ∧ w'.cell? ⟨g7, 1, none⟩ = some (.int .i64 L.stack) ∧ w'.cell? ⟨g7, 2, none⟩ = some (.slice e2 L.slots.length f2) ∧ w'.cell? ⟨g7, 3, none⟩ = some (.int .i64 L.flash) ∧ w'.cell? ⟨g7, 4, none⟩ = some (.int .i64 L.ram) ∧ w'.cell? ⟨g7, 5, none⟩ = some (.slice e5 vs.length f5)) (go_keep)
    (first
      | (go_at_call 13; first
          | with_reducible refine (HTX.out _ (Below.refl _ _)).mono ?_
          | with_reducible refine (HTX.out _ (Below.refl _ _).drew).mono ?_
         rintro e j2 ⟨b0, d0, ys, b2, d2, b5, d5, us, rfl, hj2, yj2⟩
         have HJ2 := hide (And.intro hj2 yj2)
         clear hj2 yj2
         obtain ⟨⟨u0', u1', u2', u3', u4', u5'⟩, ⟨v0', v1', v2', v3', v4', v5'⟩⟩ := HCX.out _ HJ2.out.1)
      | (go_at_call 16; refine (eqLayout_same HR.out (HA11.out.2.2.2.below' HJ2.out.1) HJ2.out.2).mono ?_
         rintro e j3 ⟨rfl, hj3⟩
         have HJ3 := hide (HJ2.out.1.trans (hj3.mono HJ2.out.1.size))
         clear hj3
         obtain ⟨⟨u0'', u1'', u2'', u3'', u4'', u5''⟩, ⟨v0'', v1'', v2'', v3'', v4'', v5''⟩⟩ := HCX.out _ HJ3.out))
  have HB := hide (HA11.out.1.trans (HJ3.out.mono HA11.out.1.size))
  clear x0 x1 x2 x3 x4 x5 y0 y1 y2 y3 y4 y5 u0' u1' u2' u3' u4' u5' v0' v1' v2' v3' v4' v5' u0'' u1'' u2'' u3'' u4'' u5'' v0'' v1'' v2'' v3'' v4'' v5'' HJ2 HJ3 HA11 HCX HTX
  go_wp2
  go_ret
  exact ⟨rfl, HB.out⟩
end Go.Proofs.YtngdgogjlpjjpaeGreat
