import Derived.Test.YtngdgogjlpjjpadGreatJ49
import Derived.Deep.RegionHeld3
namespace Go.Proofs.YtngdgogjlpjjpadGreat
open Go.RowKit
set_option linter.unusedVariables false
set_option linter.unusedSimpArgs false
set_option maxRecDepth 100000

theorem drew_sz (w : World) : w.drew.heap.size = w.heap.size := rfl

set_option maxHeartbeats 8000000 in
theorem exactLink_walk (a : Option Addr) (n cap : Nat) (ms : List Md) (s c k d : Int) (w : World) (h : MS w a n cap ms) :
    Calls Tryz.prog 6 #[.slice a n cap, .agg #[.int .i64 s, .int .i64 c, .int .i64 k, .int .i64 d]] w fun e w' => e = .returned (.bool true) ∧ Below w.heap.size w w' := by
  have HS := hide (fun w h => szModuleS_any a n cap ms 1048576 w h (by omega) (by omega))
  have HB0 : Below w.heap.size w (w.alloc (.cells #[.int .i64 s, .int .i64 c, .int .i64 k, .int .i64 d] 83)) := (Below.refl _ _).alloc (Nat.le_refl _) _
  have k0 := Blk.new w #[.int .i64 s, .int .i64 c, .int .i64 k, .int .i64 d] 83
  by_cases hz : 1048576 < n + upS (fun j => (ms.getD j zMd).size) n
  · rw [show szR 1048576 (n + upS (fun j => (ms.getD j zMd).size) n) = -1 by unfold szR; rw [if_pos (by omega)]] at HS
    go_enter Tryz.func6, Tryz.ntmps6
    go_wp2_with fail
    refine (HS.out _ (h.below HB0)).mono ?_
    rintro e w1 ⟨rfl, hb1⟩
    go_wp2
    go_ret
    exact ⟨rfl, HB0.trans (hb1.mono (by simp))⟩
  obtain ⟨Z, hZ⟩ : ∃ Z, Z = szR 1048576 (n + upS (fun j => (ms.getD j zMd).size) n) := ⟨_, rfl⟩
  rw [← hZ] at HS
  have hZ0 : ¬ Z < 0 := by rw [hZ]; unfold szR; rw [if_neg (by omega)]; omega
  clear hZ
  have HZ := hide (show ∀ i, i < n → (ms.getD i zMd).size ≤ 1048576 from fun i hi => by have := upS_le (fun j => (ms.getD j zMd).size) n i hi; omega)
  have HZS := hide (show n + upS (fun j => (ms.getD j zMd).size) n ≤ 1048576 by omega)
  have hn : n ≤ 1048576 := by omega
  have HT := hide (fun (W : World) (hb : Below w.heap.size w W) => toModuleS_any a n cap ms W (h.below hb) hn HZ.out)
  clear hz
  obtain ⟨LY, hLY⟩ : ∃ LY, LY = lkL (pmS ms) s c k d := ⟨_, rfl⟩
  obtain ⟨C, hC⟩ : ∃ C, C = lkc (pmS ms) s c k d := ⟨_, rfl⟩
  have HSP := hide (fun (g : Nat) (ms' : List Md) (W : World) (r : RowM W g n ms ms') (hl : ms'.length = n) => by
    have := sLink_any (some ⟨g, 0, none⟩) n n ms' s c k d W (rowm_msd r hl h HZ.out)
    rw [rowm_pms r hl h.1] at this
    unfold LkM at this
    rw [← hLY, ← hC] at this
    exact this)
  have HIM := hide (fun (g : Nat) (ms' : List Md) (W : World) (r : RowM W g n ms ms') (hl : ms'.length = n) => by
    have := iLink_any (some ⟨g, 0, none⟩) n n ms' s c k d W (rowm_msd r hl h HZ.out)
    rw [rowm_pms r hl h.1] at this
    unfold LkM at this
    rw [← hLY, ← hC] at this
    exact this)
  have HLB := hide (show LayB LY by rw [hLY]; exact layB_lk _ _ _ _ _)
  clear hLY hC
  have HH := hide h
  go_enter Tryz.func6, Tryz.ntmps6
  go_wp2_with fail
  refine (HS.out _ (h.below HB0)).mono ?_
  rintro e w1 ⟨rfl, hb1⟩
  have hB1 := HB0.trans (hb1.mono (by simp))
  have k1 := k0.below hb1
  clear hb1 HB0 k0 HS h
  have cz0 : w1.cell? ⟨w.heap.size, 0, none⟩ = some (.int .i64 s) := k1.cell 0
  have cz1 : w1.cell? ⟨w.heap.size, 1, none⟩ = some (.int .i64 c) := k1.cell 1
  have cz2 : w1.cell? ⟨w.heap.size, 2, none⟩ = some (.int .i64 k) := k1.cell 2
  have cz3 : w1.cell? ⟨w.heap.size, 3, none⟩ = some (.int .i64 d) := k1.cell 3
  have HBK := hide (And.intro hB1 k1)
  clear hB1 k1
  have HTZ := hide (fun (zc : Array Value) (t : TypeId) (W0 X : World) (o : Option Nat) (h0 : Below w.heap.size w W0) (hz : Zb zc t W0 X o) => (HT.out X (h0.trans (hz.1.mono h0.size))).mono (fun e w' he => show e = .returned (.slice (some ⟨X.heap.size, 0, none⟩) n n) ∧ ∃ m, Z2 zc t n ms W0 w' o X.heap.size m from ⟨he.1, by obtain ⟨_, ⟨m, hl, hr⟩, hb⟩ := he; exact ⟨m, hz.below hb, hr, hl⟩⟩))
  have HCZ := hide (fun (zc : Array Value) (t : TypeId) (W0 X : World) (o : Option Nat) (g : Nat) (m : List Md) (hz : Z2 zc t n ms W0 X o g m) => (toConfig_any s c k d X).mono (fun e w' he => show e = .returned (.agg #[.int .i64 s, .int .i64 c, .int .i64 k, .int .i64 d]) ∧ Z2 zc t n ms W0 w' o g m from ⟨he.1, hz.below he.2⟩))
  have HSZ := hide (fun (zc : Array Value) (t : TypeId) (W0 X : World) (o : Option Nat) (g : Nat) (m : List Md) (hz : Z2 zc t n ms W0 X o g m) => (HSP.out g m X hz.r hz.l).mono (fun e w' he => show ∃ a0 c0 xs a2 c2 a5 c5 ts, e = .returned (.tuple #[.agg #[.slice a0 xs.length c0, .int .i64 LY.stack, .slice a2 LY.slots.length c2, .int .i64 LY.flash, .int .i64 LY.ram, .slice a5 ts.length c5], .int .i64 C]) ∧ Z3 zc t W0.heap.size LY W0 w' o a0 c0 xs a2 c2 a5 c5 ts from by
    obtain ⟨hb, a0, c0, xs, a2, c2, a5, c5, ts, e1, O⟩ := he
    exact ⟨a0, c0, xs, a2, c2, a5, c5, ts, e1, hz.z.below hb, _, hz.z.1.size, O, fun g e => (hz.z.2 g e).2.lt⟩))
  have HIZ := hide (fun (zc : Array Value) (t : TypeId) (W0 X : World) (o : Option Nat) (g : Nat) (m : List Md) (hz : Z2 zc t n ms W0 X o g m) => (HIM.out g m X hz.r hz.l).mono (fun e w' he => show ∃ a0 c0 xs a2 c2 a5 c5 ts, e = .returned (.tuple #[.agg #[.slice a0 xs.length c0, .int .i64 LY.stack, .slice a2 LY.slots.length c2, .int .i64 LY.flash, .int .i64 LY.ram, .slice a5 ts.length c5], .int .i64 C]) ∧ Z3 zc t W0.heap.size LY W0 w' o a0 c0 xs a2 c2 a5 c5 ts from by
    obtain ⟨hb, a0, c0, xs, a2, c2, a5, c5, ts, e1, O⟩ := he
    exact ⟨a0, c0, xs, a2, c2, a5, c5, ts, e1, hz.z.below hb, _, hz.z.1.size, O, fun g e => (hz.z.2 g e).2.lt⟩))
  have hw1 : w.heap.size < w1.heap.size := HBK.out.2.lt
  have HY1 := hide (zb_new #[.slice none 0 0, .int .i64 0, .slice none 0 0, .int .i64 0, .int .i64 0, .slice none 0 0] 32 w1)
  have HCL := hide (fun (W : World) (hb : Below w1.heap.size w1 W) => show W.cell? ⟨w.heap.size, 0, none⟩ = some (.int .i64 s) ∧ W.cell? ⟨w.heap.size, 1, none⟩ = some (.int .i64 c) ∧ W.cell? ⟨w.heap.size, 2, none⟩ = some (.int .i64 k) ∧ W.cell? ⟨w.heap.size, 3, none⟩ = some (.int .i64 d) from ⟨(HBK.out.2.below hb).cell 0, (HBK.out.2.below hb).cell 1, (HBK.out.2.below hb).cell 2, (HBK.out.2.below hb).cell 3⟩)
  go_wp2_with fail
  apply cutY (F := fun gm gb a0 c0 xs a2 c2 a5 c5 ts W => Fin5 w1.heap.size LY w1 gb a0 c0 xs a2 c2 a5 c5 ts W)
  · intro REST0
    have REST := hide REST0
    clear REST0
    go_region_held3 (fun w' => w'.cell? ⟨w.heap.size, 0, none⟩ = some (.int .i64 s) ∧ w'.cell? ⟨w.heap.size, 1, none⟩ = some (.int .i64 c) ∧ w'.cell? ⟨w.heap.size, 2, none⟩ = some (.int .i64 k) ∧ w'.cell? ⟨w.heap.size, 3, none⟩ = some (.int .i64 d)) (go_keep)
      (first
        | (go_at_call 43; first
            | with_reducible refine (HTZ.out _ _ w1 _ none HBK.out.1 HY1.out).mono ?_
            | with_reducible refine (HTZ.out _ _ w1 _ none HBK.out.1 HY1.out.drew).mono ?_
            | with_reducible refine (HTZ.out _ _ w1 _ _ HBK.out.1 HY1.out.box).mono ?_
            | with_reducible refine (HTZ.out _ _ w1 _ _ HBK.out.1 HY1.out.box.drew).mono ?_
            | with_reducible refine (HTZ.out _ _ w1 _ _ HBK.out.1 HY1.out.drew.box).mono ?_
           rintro e w2 ⟨rfl, m2, hY2⟩
           try simp only [World.size_alloc, drew_sz] at hY2
           have HY2 := hide hY2
           clear hY2
           obtain ⟨d0, d1, d2, d3⟩ := HCL.out w2 HY2.out.z.1)
        | (go_at_call 44; first
            | with_reducible refine (HCZ.out _ _ w1 _ none _ _ HY2.out).mono ?_
            | with_reducible refine (HCZ.out _ _ w1 _ none _ _ HY2.out.drew).mono ?_
            | with_reducible refine (HCZ.out _ _ w1 _ _ _ _ HY2.out).mono ?_
            | with_reducible refine (HCZ.out _ _ w1 _ _ _ _ HY2.out.box).mono ?_
            | with_reducible refine (HCZ.out _ _ w1 _ _ _ _ HY2.out.drew.box).mono ?_
           rintro e w3 ⟨rfl, hY3⟩
           have HY3 := hide hY3
           clear hY3
           obtain ⟨e0, e1, e2, e3⟩ := HCL.out w3 HY3.out.z.1)
        | (go_at_call 8; first
            | with_reducible refine (HSZ.out _ _ w1 _ none _ _ HY3.out).mono ?_
            | with_reducible refine (HSZ.out _ _ w1 _ none _ _ HY3.out.drew).mono ?_
            | with_reducible refine (HSZ.out _ _ w1 _ _ _ _ HY3.out).mono ?_
            | with_reducible refine (HSZ.out _ _ w1 _ _ _ _ HY3.out.box).mono ?_
            | with_reducible refine (HSZ.out _ _ w1 _ _ _ _ HY3.out.drew.box).mono ?_
           rintro e w4 ⟨a0, c0, xs, a2, c2, a5, c5, ts, rfl, hY4⟩
           have HY4 := hide hY4
           clear hY4
           obtain ⟨f0, f1, f2, f3⟩ := HCL.out w4 HY4.out.z.1
           first
             | (have kz := (HY4.out.z.2 _ rfl).2
                obtain ⟨z0, z1, z2, z3, z4, z5⟩ := kz.lay
                have y0 := kz.frozen 0
                have y1 := kz.frozen 1
                have y2 := kz.frozen 2
                have y3 := kz.frozen 3
                have y4 := kz.frozen 4
                have y5 := kz.frozen 5
                have hne := Nat.ne_of_lt (Nat.lt_of_lt_of_le hw1 (HY4.out.z.2 _ rfl).1)
                have hne' := hne.symm
                clear kz)
             | skip))
    · have HF := hide HY4.out.fin
      generalize w4.alloc (.cells #[.slice a0 xs.length c0, .int .i64 LY.stack, .slice a2 LY.slots.length c2, .int .i64 LY.flash, .int .i64 LY.ram, .slice a5 ts.length c5] 32) = W' at HF ⊢
      generalize w4.heap.size = gb at HF ⊢
      generalize w1.heap.size = gm
      exact REST.out gm gb a0 c0 xs a2 c2 a5 c5 ts W' HF.out
    all_goals exact REST.out _ _ _ _ _ _ _ _ _ _ _ HY4.out.fin'
  · rintro gm gb a0 c0 xs a2 c2 a5 c5 ts W5 hF
    show Exit.then _ _ _ _ _
    have HKp := hide (show Kp #[.int .i64 s, .int .i64 c, .int .i64 k, .int .i64 d] 83 w1.heap.size LY w W5 gb a0 c0 xs a2 c2 a5 c5 ts W5 from ⟨HBK.out.1.trans (hF.b.mono HBK.out.1.size), HBK.out.2.below hF.b, hF.k, hF.l, hF.l, ⟨Nat.lt_of_lt_of_le hw1 hF.b.size, hF.k.lt⟩, Nat.le_refl _⟩)
    generalize w1.heap.size = base at HKp
    have HIL := hide (fun (g : Nat) (ms' : List Md) (W : World) (r : RowM W g n ms ms') (hl : ms'.length = n) => (HIM.out g ms' W r hl).mono (fun e w' he => show Below W.heap.size W w' ∧ ∃ b0 d0 ys b2 d2 b5 d5 us, e = .returned (.tuple #[.agg #[.slice b0 ys.length d0, .int .i64 LY.stack, .slice b2 LY.slots.length d2, .int .i64 LY.flash, .int .i64 LY.ram, .slice b5 us.length d5], .int .i64 C]) ∧ LayO w' W.heap.size LY b0 d0 ys b2 d2 b5 d5 us from he))
    clear hF hw1 HBK HCL HSZ HSP HY1 cz0 cz1 cz2 cz3
    go_wp2_with fail
    refine (HT.out W5 HKp.out.be).mono ?_
    rintro e w6 ⟨rfl, ⟨mx, lx, rx⟩, hb6⟩
    have K6 := HKp.out.below hb6
    have hs6 : W5.heap.size < w6.heap.size := by obtain ⟨⟨cur, hc, _⟩, _⟩ := rx; exact hc.lt
    have HRX := hide rx
    clear hb6 rx
    have g0 : w6.cell? ⟨w.heap.size, 0, none⟩ = some (.int .i64 s) := K6.kc.cell 0
    have g1 : w6.cell? ⟨w.heap.size, 1, none⟩ = some (.int .i64 c) := K6.kc.cell 1
    have g2 : w6.cell? ⟨w.heap.size, 2, none⟩ = some (.int .i64 k) := K6.kc.cell 2
    have g3 : w6.cell? ⟨w.heap.size, 3, none⟩ = some (.int .i64 d) := K6.kc.cell 3
    go_wp2_with fail
    refine (toConfig_any s c k d _).mono ?_
    rintro e w7 ⟨rfl, hb7⟩
    have K7 := K6.below hb7
    have B7 := hb7
    have hs7 := hb7.size
    clear K6 hb7 g0 g1 g2 g3
    go_wp2_with fail
    refine (HIL.out _ mx w7 (HRX.out.below B7) lx).mono ?_
    rintro e w8 ⟨hb8, b0, d0, ys, b2, d2, b5, d5, us, rfl, O8⟩
    have hA : Below w8.heap.size w8 (w8.alloc (.cells #[.slice b0 ys.length d0, .int .i64 LY.stack, .slice b2 LY.slots.length d2, .int .i64 LY.flash, .int .i64 LY.ram, .slice b5 us.length d5] 32)) := (Below.refl _ _).alloc (Nat.le_refl _) _
    have k8 := Blk.new w8 #[.slice b0 ys.length d0, .int .i64 LY.stack, .slice b2 LY.slots.length d2, .int .i64 LY.flash, .int .i64 LY.ram, .slice b5 us.length d5] 32
    have K8 := (K7.below hb8).below hA
    have B8 := (B7.trans (hb8.mono B7.size)).trans (hA.mono (B7.trans (hb8.mono B7.size)).size)
    have hs8 := hb8.size
    have HO8 := hide O8
    have O9 := O8.below' hA
    clear K7 B7 hb8 hA O8
    obtain ⟨p0, p1, p2, p3, p4, p5⟩ := K8.kw.lay
    obtain ⟨q0, q1, q2, q3, q4, q5⟩ := k8.lay
    go_wp2_with fail
    clear p0 p1 p2 p3 p4 p5 q0 q1 q2 q3 q4 q5
    generalize w8.alloc (.cells #[.slice b0 ys.length d0, .int .i64 LY.stack, .slice b2 LY.slots.length d2, .int .i64 LY.flash, .int .i64 LY.ram, .slice b5 us.length d5] 32) = W8 at *
    generalize hg8 : w8.heap.size = g8 at *
    have HG8 := hide hg8
    clear hg8
    refine (eqLayout_same HLB.out.r O9 K8.lw).mono ?_
    rintro e w9 ⟨rfl, hb9⟩
    have K9 := K8.below hb9
    have B9 := B8.trans (hb9.mono B8.size)
    have k9 := k8.below hb9
    have O9' := O9.below' hb9
    clear K8 B8 k8 O9 hb9
    have hcc : (C != C) = false := by simp
    go_wp2_with fail
    refine (HT.out w9 K9.be).mono ?_
    rintro e w10 ⟨rfl, ⟨my, ly, ry⟩, hb10⟩
    have K10 := K9.below hb10
    have B10 := B9.trans (hb10.mono B9.size)
    have k10 := k9.below hb10
    have O10 := O9'.below' hb10
    clear K9 B9 k9 O9' hb10
    go_wp2_with fail
    refine (eqModuleS_same _ _ n n n mx my _ ((HRX.out.below B10).ms lx HH.out) (ry.ms ly HH.out) (RowM.same HH.out (HRX.out.below B10) lx ry ly)).mono ?_
    rintro e w11 ⟨rfl, hb11⟩
    have K11 := K10.below hb11
    have B11 := B10.trans (hb11.mono B10.size)
    have k11 := k10.below hb11
    have O11 := O10.below' hb11
    clear K10 B10 k10 O10 hb11 ry
    obtain ⟨z1, z2, z3⟩ := rowm_cnt HRX.out lx HH.out HZS.out
    have HMK := hide (markModuleS_sl (Sm w6 W5.heap.size) W5.heap.size n n 1 mx (fun i => bnF (mx.getD i zMd)) w11 ((rowm_mrs HRX.out lx HH.out).kept (Mkd.below B11)) (by omega) z2 z3 hn)
    generalize 1 + upS (cntM mx (fun i => bnF (mx.getD i zMd))) n = KM at HMK
    have hK0 : ¬ ((KM : Int) < 0) := by omega
    clear z1 z2 z3
    have HKB := hide (And.intro K11 (And.intro k11 O11))
    clear K11 B11 k11 O11
    go_wp2_with fail
    refine HMK.out.mono ?_
    rintro e w12 ⟨rfl, M12⟩
    have hg8 := HG8.out
    obtain ⟨K11, k11, O11⟩ := HKB.out
    have K12 := K11.turn M12.turn (fun j hj => by rcases hj with hj | hj; exact Nat.le_of_lt hj.1; omega)
    have O12 := O11.kept M12.turn (fun j hj _ hs => by rcases hs with hs | hs; have := hs.2.1; omega; omega)
    have k12 := turn_blk M12.turn k11 (fun hs => by rcases hs with hs | hs; have := hs.2.1; omega; omega)
    clear K11 k11 O11 M12 HMK HKB
    obtain ⟨p0, p1, p2, p3, p4, p5⟩ := K12.kw.lay
    obtain ⟨q0, q1, q2, q3, q4, q5⟩ := k12.lay
    go_wp2_with fail
    refine (eqLayout_same HLB.out.r O12 K12.lw).mono ?_
    rintro e w13 ⟨rfl, hb13⟩
    have K13 := K12.below hb13
    have k13 := k12.below hb13
    have O13 := O12.below' hb13
    clear K12 k12 O12 hb13 p0 p1 p2 p3 p4 p5 q0 q1 q2 q3 q4 q5
    obtain ⟨u1, u2, u3, u4, u5⟩ := O13.sizes HLB.out
    have HML := hide (markLayout_any b0 ys.length d0 LY.stack b2 LY.slots.length d2 LY.flash LY.ram b5 us.length d5 1 _ _ _ _ _ _ _ w13 (O13.y3 HLB.out.r) u1 u2 u3 u4 u5 (by omega))
    have HMH := hide (fun W h => heldLayout_any b0 ys.length d0 LY.stack b2 LY.slots.length d2 LY.flash LY.ram b5 us.length d5 1 w7.heap.size (plF ys) (tbF us) W h u1 u2 u3 u4 u5 (by omega))
    have HSY := hide (fun j (hj : Sy b0 ys.length (plF ys) (.slice b2 LY.slots.length d2) us.length (tbF us) j) => (HO8.out.y3 HLB.out.r).lt hj)
    generalize hQ : 1 + sumP (plF ys) ys.length + LY.slots.length + sumT (tbF us) us.length = Q at HML HMH
    have hQ0 : ¬ ((Q : Int) < 0) := by omega
    have hQQ : ((Q : Int) != (Q : Int)) = false := by simp
    clear hQ u1 u2 u3 u4 u5 O13
    obtain ⟨q0, q1, q2, q3, q4, q5⟩ := k13.lay
    go_wp2_with fail
    refine HML.out.mono ?_
    rintro e w14 ⟨rfl, Y14, T14⟩
    have K14 := K13.turn T14 (fun j hj => by have := HSY.out j hj; omega)
    have k14 := turn_blk T14 k13 (fun hj => by have := HSY.out _ hj; omega)
    clear K13 k13 T14 HML q0 q1 q2 q3 q4 q5
    obtain ⟨q0, q1, q2, q3, q4, q5⟩ := k14.lay
    go_wp2_with fail
    refine (HMH.out _ Y14).mono ?_
    rintro e w15 ⟨rfl, hb15⟩
    have K15 := K14.below hb15
    have HKp15 := hide K15
    have g0 : w15.cell? ⟨w.heap.size, 0, none⟩ = some (.int .i64 s) := K15.kc.cell 0
    have g1 : w15.cell? ⟨w.heap.size, 1, none⟩ = some (.int .i64 c) := K15.kc.cell 1
    have g2 : w15.cell? ⟨w.heap.size, 2, none⟩ = some (.int .i64 k) := K15.kc.cell 2
    have g3 : w15.cell? ⟨w.heap.size, 3, none⟩ = some (.int .i64 d) := K15.kc.cell 3
    have hw15 : w.heap.size < w15.heap.size := K15.kc.lt
    clear K14 K15 k14 hb15 q0 q1 q2 q3 q4 q5 Y14 HMH HSY HO8 HRX HG8 hg8 HKp hs6 hs7 hs8
    have HY15 := hide (zb_new #[.slice none 0 0, .int .i64 0, .slice none 0 0, .int .i64 0, .int .i64 0, .slice none 0 0] 32 w15)
    have HCL2 := hide (fun (W : World) (hb : Below w15.heap.size w15 W) => show W.cell? ⟨w.heap.size, 0, none⟩ = some (.int .i64 s) ∧ W.cell? ⟨w.heap.size, 1, none⟩ = some (.int .i64 c) ∧ W.cell? ⟨w.heap.size, 2, none⟩ = some (.int .i64 k) ∧ W.cell? ⟨w.heap.size, 3, none⟩ = some (.int .i64 d) from ⟨(HKp15.out.kc.below hb).cell 0, (HKp15.out.kc.below hb).cell 1, (HKp15.out.kc.below hb).cell 2, (HKp15.out.kc.below hb).cell 3⟩)
    go_wp2_with fail
    apply cutY (F := fun gm gb a0 c0 xs a2 c2 a5 c5 ts W => Fin5 w15.heap.size LY w15 gb a0 c0 xs a2 c2 a5 c5 ts W)
    · intro REST0
      have REST := hide REST0
      clear REST0
      go_region_held3 (fun w' => w'.cell? ⟨w.heap.size, 0, none⟩ = some (.int .i64 s) ∧ w'.cell? ⟨w.heap.size, 1, none⟩ = some (.int .i64 c) ∧ w'.cell? ⟨w.heap.size, 2, none⟩ = some (.int .i64 k) ∧ w'.cell? ⟨w.heap.size, 3, none⟩ = some (.int .i64 d)) (go_keep)
        (first
          | (go_at_call 43; first
              | with_reducible refine (HTZ.out _ _ w15 _ none HKp15.out.be HY15.out).mono ?_
              | with_reducible refine (HTZ.out _ _ w15 _ none HKp15.out.be HY15.out.drew).mono ?_
              | with_reducible refine (HTZ.out _ _ w15 _ _ HKp15.out.be HY15.out.box).mono ?_
              | with_reducible refine (HTZ.out _ _ w15 _ _ HKp15.out.be HY15.out.box.drew).mono ?_
              | with_reducible refine (HTZ.out _ _ w15 _ _ HKp15.out.be HY15.out.drew.box).mono ?_
             rintro e v2 ⟨rfl, n2, gY2⟩
             try simp only [World.size_alloc, drew_sz] at gY2
             have GY2 := hide gY2
             clear gY2
             obtain ⟨p0, p1, p2, p3⟩ := HCL2.out v2 GY2.out.z.1)
          | (go_at_call 44; first
              | with_reducible refine (HCZ.out _ _ w15 _ none _ _ GY2.out).mono ?_
              | with_reducible refine (HCZ.out _ _ w15 _ none _ _ GY2.out.drew).mono ?_
              | with_reducible refine (HCZ.out _ _ w15 _ _ _ _ GY2.out).mono ?_
              | with_reducible refine (HCZ.out _ _ w15 _ _ _ _ GY2.out.box).mono ?_
              | with_reducible refine (HCZ.out _ _ w15 _ _ _ _ GY2.out.drew.box).mono ?_
             rintro e v3 ⟨rfl, gY3⟩
             have GY3 := hide gY3
             clear gY3
             obtain ⟨q0, q1, q2, q3⟩ := HCL2.out v3 GY3.out.z.1)
          | (go_at_call 9; first
              | with_reducible refine (HIZ.out _ _ w15 _ none _ _ GY3.out).mono ?_
              | with_reducible refine (HIZ.out _ _ w15 _ none _ _ GY3.out.drew).mono ?_
              | with_reducible refine (HIZ.out _ _ w15 _ _ _ _ GY3.out).mono ?_
              | with_reducible refine (HIZ.out _ _ w15 _ _ _ _ GY3.out.box).mono ?_
              | with_reducible refine (HIZ.out _ _ w15 _ _ _ _ GY3.out.drew.box).mono ?_
             rintro e v4 ⟨b0, d0, ys, b2, d2, b5, d5, us, rfl, gY4⟩
             have GY4 := hide gY4
             clear gY4
             obtain ⟨r0, r1, r2, r3⟩ := HCL2.out v4 GY4.out.z.1
             first
               | (have kz := (GY4.out.z.2 _ rfl).2
                  obtain ⟨t0, t1, t2, t3, t4, t5⟩ := kz.lay
                  have y0 := kz.frozen 0
                  have y1 := kz.frozen 1
                  have y2 := kz.frozen 2
                  have y3 := kz.frozen 3
                  have y4 := kz.frozen 4
                  have y5 := kz.frozen 5
                  have hne := Nat.ne_of_lt (Nat.lt_of_lt_of_le hw15 (GY4.out.z.2 _ rfl).1)
                  have hne' := hne.symm
                  clear kz)
               | skip))
      · have HF := hide GY4.out.fin
        generalize v4.alloc (.cells #[.slice b0 ys.length d0, .int .i64 LY.stack, .slice b2 LY.slots.length d2, .int .i64 LY.flash, .int .i64 LY.ram, .slice b5 us.length d5] 32) = W' at HF ⊢
        generalize v4.heap.size = gb' at HF ⊢
        generalize w15.heap.size = gm'
        exact REST.out gm' gb' b0 d0 ys b2 d2 b5 d5 us W' HF.out
      all_goals exact REST.out _ _ _ _ _ _ _ _ _ _ _ GY4.out.fin'
    · rintro gm' gb' e0 f0 zs e2 f2 e5 f5 vs W16 hF
      show Exit.then _ _ _ _ _
      have K16 := HKp15.out.below hF.b
      have k16 := hF.k
      have O16 := hF.l
      clear hF g0 g1 g2 g3 hw15 HCL2 HY15 HKp15
      obtain ⟨p0, p1, p2, p3, p4, p5⟩ := K16.kw.lay
      obtain ⟨q0, q1, q2, q3, q4, q5⟩ := k16.lay
      have hcc : (C != C) = false := by simp
      go_wp2_with fail
      refine (eqLayout_same HLB.out.r O16 K16.lw).mono ?_
      rintro e w17 ⟨rfl, hb17⟩
      have HB := hide (K16.below hb17).be
      clear K16 k16 O16 hb17 p0 p1 p2 p3 p4 p5 q0 q1 q2 q3 q4 q5
      go_wp2
      go_ret
      exact ⟨rfl, HB.out⟩
end Go.Proofs.YtngdgogjlpjjpadGreat
