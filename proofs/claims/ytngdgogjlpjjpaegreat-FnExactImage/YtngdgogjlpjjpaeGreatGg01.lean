import Derived.Test.YtngdgogjlpjjpaeGreatGg00
import Derived.Deep.RegionHeld3
namespace Go.Proofs.YtngdgogjlpjjpaeGreat
open Go.RowKit Classical
set_option linter.unusedVariables false
set_option linter.unusedSimpArgs false
set_option maxRecDepth 100000

set_option maxHeartbeats 16000000 in
theorem exactImage_walk (a : Option Addr) (n cap : Nat) (ms : List Md) (L : Lay) (a0 : Option Addr) (c0 : Nat) (xs : List PB) (a2 : Option Addr) (c2 : Nat) (a5 : Option Addr) (c5 : Nat) (ts : List TB) (w : World) (h : MS w a n cap ms) (hL : LyT w L a0 c0 xs a2 c2 a5 c5 ts) :
    Calls Tryz.prog 5 #[.slice a n cap, .agg #[.slice a0 xs.length c0, .int .i64 L.stack, .slice a2 L.slots.length c2, .int .i64 L.flash, .int .i64 L.ram, .slice a5 ts.length c5]] w fun e w' => e = .returned (.bool true) ∧ Below w.heap.size w w' := by
  have HS := hide (fun w h => szModuleS_any a n cap ms 1048576 w h (by omega) (by omega))
  have HB0 : Below w.heap.size w (w.alloc (.cells #[.slice a0 xs.length c0, .int .i64 L.stack, .slice a2 L.slots.length c2, .int .i64 L.flash, .int .i64 L.ram, .slice a5 ts.length c5] 27)) := (Below.refl _ _).alloc (Nat.le_refl _) _
  have k0 := Blk.new w #[.slice a0 xs.length c0, .int .i64 L.stack, .slice a2 L.slots.length c2, .int .i64 L.flash, .int .i64 L.ram, .slice a5 ts.length c5] 27
  obtain ⟨Q1, hQ1⟩ : ∃ Q1, Q1 = n + upS (fun j => (ms.getD j zMd).size) n := ⟨_, rfl⟩
  rw [← hQ1] at HS
  have HQ1 := hide hQ1
  clear hQ1
  by_cases hz : 1048576 < Q1
  · rw [show szR 1048576 Q1 = -1 by unfold szR; rw [if_pos (by omega)]] at HS
    go_enter Tryz.func5, Tryz.ntmps5
    go_wp2_with fail
    refine (HS.out _ (h.below HB0)).mono ?_
    rintro e w1 ⟨rfl, hb1⟩
    go_wp2
    go_ret
    exact ⟨rfl, HB0.trans (hb1.mono (by simp))⟩
  obtain ⟨Z, hZ⟩ : ∃ Z : Int, Z = 1048576 - (Q1 : Int) := ⟨_, rfl⟩
  rw [show szR 1048576 Q1 = Z by unfold szR; rw [if_neg (by omega)]; omega] at HS
  have hZ0 : ¬ Z < 0 := by omega
  have hZ1 : Z ≤ 1048576 := by omega
  have HZE := hide hZ
  clear hZ
  have HSL := hide (fun (W : World) (hb : Below w.heap.size w W) => szLayout_any L a0 c0 xs a2 c2 a5 c5 ts Z W (hL.below hb) (by omega) (by omega))
  by_cases hy : Z < (lySz L xs ts : Int)
  · rw [show szR Z (lySz L xs ts) = -1 by unfold szR; rw [if_pos hy]] at HSL
    go_enter Tryz.func5, Tryz.ntmps5
    go_wp2_with fail
    refine (HS.out _ (h.below HB0)).mono ?_
    rintro e w1 ⟨rfl, hb1⟩
    have B1 := HB0.trans (hb1.mono (by simp))
    have k1 := k0.below hb1
    have x0 : w1.cell? ⟨w.heap.size, 0, none⟩ = some (.slice a0 xs.length c0) := k1.cell 0
    have x1 : w1.cell? ⟨w.heap.size, 1, none⟩ = some (.int .i64 L.stack) := k1.cell 1
    have x2 : w1.cell? ⟨w.heap.size, 2, none⟩ = some (.slice a2 L.slots.length c2) := k1.cell 2
    have x3 : w1.cell? ⟨w.heap.size, 3, none⟩ = some (.int .i64 L.flash) := k1.cell 3
    have x4 : w1.cell? ⟨w.heap.size, 4, none⟩ = some (.int .i64 L.ram) := k1.cell 4
    have x5 : w1.cell? ⟨w.heap.size, 5, none⟩ = some (.slice a5 ts.length c5) := k1.cell 5
    go_wp2_with fail
    refine (HSL.out _ B1).mono ?_
    rintro e w2 ⟨rfl, hb2⟩
    go_wp2
    go_ret
    exact ⟨rfl, B1.trans (hb2.mono B1.size)⟩
  obtain ⟨Z2', hZ2⟩ : ∃ Z2' : Int, Z2' = szR Z (lySz L xs ts) := ⟨_, rfl⟩
  rw [← hZ2] at HSL
  have hZ20 : ¬ Z2' < 0 := by rw [hZ2]; unfold szR; rw [if_neg hy]; omega
  clear hZ2
  have HQS := hide (show Q1 + lySz L xs ts ≤ 1048576 by have := HZE.out; omega)
  have HZ := hide (show ∀ i, i < n → (ms.getD i zMd).size ≤ 1048576 from fun i hi => by have := upS_le (fun j => (ms.getD j zMd).size) n i hi; have := HQ1.out; omega)
  have HZS := hide (show n + upS (fun j => (ms.getD j zMd).size) n ≤ 1048576 by have := HQ1.out; omega)
  have hn : n ≤ 1048576 := by have := HQ1.out; omega
  have HLS := hide (show lySz L xs ts ≤ 1048576 by have := HQS.out; omega)
  have HR := hide (hL.lr HLS.out)
  have HV := hide hL.v
  clear hz hy
  have HT := hide (fun (W : World) (hb : Below w.heap.size w W) => toModuleS_any a n cap ms W (h.below hb) hn HZ.out)
  have HTL := hide (fun (W : World) (hb : Below w.heap.size w W) => show Calls Tryz.prog 13 #[.agg #[.slice a0 xs.length c0, .int .i64 L.stack, .slice a2 L.slots.length c2, .int .i64 L.flash, .int .i64 L.ram, .slice a5 ts.length c5]] W fun e w' => Below W.heap.size W w' ∧ ∃ b0 d0 ys b2 d2 b5 d5 us, e = .returned (.agg #[.slice b0 ys.length d0, .int .i64 L.stack, .slice b2 L.slots.length d2, .int .i64 L.flash, .int .i64 L.ram, .slice b5 us.length d5]) ∧ LayO w' W.heap.size L b0 d0 ys b2 d2 b5 d5 us from toLayout_any L a0 c0 xs a2 c2 a5 c5 ts W (hL.below hb) HLS.out)
  obtain ⟨ps, hps⟩ : ∃ ps, ps = pmS ms := ⟨_, rfl⟩
  obtain ⟨ok, hok⟩ : ∃ ok, ok = decide (Lok ps L) := ⟨_, rfl⟩
  have HSP := hide (fun (g : Nat) (m : List Md) (W : World) (r : RowM W g n ms m) (hl : m.length = n) (b0 : Option Addr) (d0 : Nat) (ys : List PB) (b2 : Option Addr) (d2 : Nat) (b5 : Option Addr) (d5 : Nat) (us : List TB) (b : Nat) (y : LayO W b L b0 d0 ys b2 d2 b5 d5 us) => show Calls Tryz.prog 22 #[.slice (some ⟨g, 0, none⟩) n n, .agg #[.slice b0 ys.length d0, .int .i64 L.stack, .slice b2 L.slots.length d2, .int .i64 L.flash, .int .i64 L.ram, .slice b5 us.length d5]] W fun e w' => Below W.heap.size W w' ∧ ∃ p1 n1 q1 p2 n2 q2 p3 n3 q3, e = .returned (.tuple #[.agg #[.slice p1 n1 q1, .slice p2 n2 q2, .slice p3 n3 q3], .bool ok]) ∧ OM w' W.heap.size (.slice p1 n1 q1) (.slice p2 n2 q2) (.slice p3 n3 q3) (imF ps L) (imR ps L) [] from by
    have := sImage_any (some ⟨g, 0, none⟩) n n m L b0 d0 ys b2 d2 b5 d5 us W (rowm_msd r hl h HZ.out) (y.lyt HR.out HV.out)
    rw [rowm_pms r hl h.1] at this
    unfold ImM at this
    rw [← hps, ← hok] at this
    exact this)
  have HIM := hide (fun (g : Nat) (m : List Md) (W : World) (r : RowM W g n ms m) (hl : m.length = n) (b0 : Option Addr) (d0 : Nat) (ys : List PB) (b2 : Option Addr) (d2 : Nat) (b5 : Option Addr) (d5 : Nat) (us : List TB) (b : Nat) (y : LayO W b L b0 d0 ys b2 d2 b5 d5 us) => show Calls Tryz.prog 23 #[.slice (some ⟨g, 0, none⟩) n n, .agg #[.slice b0 ys.length d0, .int .i64 L.stack, .slice b2 L.slots.length d2, .int .i64 L.flash, .int .i64 L.ram, .slice b5 us.length d5]] W fun e w' => Below W.heap.size W w' ∧ ∃ p1 n1 q1 p2 n2 q2 p3 n3 q3, e = .returned (.tuple #[.agg #[.slice p1 n1 q1, .slice p2 n2 q2, .slice p3 n3 q3], .bool ok]) ∧ OM w' W.heap.size (.slice p1 n1 q1) (.slice p2 n2 q2) (.slice p3 n3 q3) (imF ps L) (imR ps L) [] from by
    have := iImage_any (some ⟨g, 0, none⟩) n n m L b0 d0 ys b2 d2 b5 d5 us W (rowm_msd r hl h HZ.out) (y.lyt HR.out HV.out)
    rw [rowm_pms r hl h.1] at this
    unfold ImM at this
    rw [← hps, ← hok] at this
    exact this)
  have HFL := hide (show (imF ps L).length ≤ 16384 ∧ (imR ps L).length ≤ 16384 from by
    unfold imF imR
    by_cases e : Lok ps L
    · rw [if_pos e, if_pos e]
      have K := lok_kn e
      have h1 := flB_len ps L ps.length
      have h2 := K.fr
      have h3 := K.rr
      refine ⟨by omega, ?_⟩
      have h4 : ∀ i, i ≤ ps.length → (raB ps L i).length = L.ram.toNat := by
        intro i
        induction i with
        | zero => intro _; simp [raB]
        | succ i ih =>
          intro hi
          have h5 := ih (by omega)
          have h6 := (K.at i (by omega)).2.2.2
          rw [raB, relB_len, ovr_len]
          · exact h5
          · rw [h5, K.place i (by omega)]
            omega
      have := h4 ps.length (Nat.le_refl _)
      omega
    · rw [if_neg e, if_neg e]; simp)
  clear hps hok
  have hokk : (ok != ok) = false := by cases ok <;> rfl
  have HH := hide h
  have HHL := hide hL
  go_enter Tryz.func5, Tryz.ntmps5
  go_wp2_with fail
  refine (HS.out _ (h.below HB0)).mono ?_
  rintro e w1 ⟨rfl, hb1⟩
  have hB1 := HB0.trans (hb1.mono (by simp))
  have k1 := k0.below hb1
  clear hb1 HB0 k0 HS h
  have x0 : w1.cell? ⟨w.heap.size, 0, none⟩ = some (.slice a0 xs.length c0) := k1.cell 0
  have x1 : w1.cell? ⟨w.heap.size, 1, none⟩ = some (.int .i64 L.stack) := k1.cell 1
  have x2 : w1.cell? ⟨w.heap.size, 2, none⟩ = some (.slice a2 L.slots.length c2) := k1.cell 2
  have x3 : w1.cell? ⟨w.heap.size, 3, none⟩ = some (.int .i64 L.flash) := k1.cell 3
  have x4 : w1.cell? ⟨w.heap.size, 4, none⟩ = some (.int .i64 L.ram) := k1.cell 4
  have x5 : w1.cell? ⟨w.heap.size, 5, none⟩ = some (.slice a5 ts.length c5) := k1.cell 5
  go_wp2_with fail
  refine (HSL.out _ hB1).mono ?_
  rintro e v1 ⟨rfl, hb1⟩
  have hB2 := hB1.trans (hb1.mono hB1.size)
  have k2 := k1.below hb1
  clear hb1 hB1 k1 HSL x0 x1 x2 x3 x4 x5
  have x0 : v1.cell? ⟨w.heap.size, 0, none⟩ = some (.slice a0 xs.length c0) := k2.cell 0
  have x1 : v1.cell? ⟨w.heap.size, 1, none⟩ = some (.int .i64 L.stack) := k2.cell 1
  have x2 : v1.cell? ⟨w.heap.size, 2, none⟩ = some (.slice a2 L.slots.length c2) := k2.cell 2
  have x3 : v1.cell? ⟨w.heap.size, 3, none⟩ = some (.int .i64 L.flash) := k2.cell 3
  have x4 : v1.cell? ⟨w.heap.size, 4, none⟩ = some (.int .i64 L.ram) := k2.cell 4
  have x5 : v1.cell? ⟨w.heap.size, 5, none⟩ = some (.slice a5 ts.length c5) := k2.cell 5
  have HBK := hide (And.intro hB2 k2)
  clear hB2 k2 hL
  have HTZ := hide (fun (zc : Array Value) (t : TypeId) (W0 X : World) (o : Option Nat) (h0 : Below w.heap.size w W0) (hz : Zb zc t W0 X o) => (HT.out X (h0.trans (hz.1.mono h0.size))).mono (fun e w' he => show e = .returned (.slice (some ⟨X.heap.size, 0, none⟩) n n) ∧ ∃ m, Z2 zc t n ms W0 w' o X.heap.size m from ⟨he.1, by obtain ⟨_, ⟨m, hl, hr⟩, hb⟩ := he; exact ⟨m, hz.below hb, hr, hl⟩⟩))
  have HYZ := hide (fun (zc : Array Value) (t : TypeId) (W0 X : World) (o : Option Nat) (g : Nat) (m : List Md) (h0 : Below w.heap.size w W0) (hz : Z2 zc t n ms W0 X o g m) => (HTL.out X (h0.trans (hz.z.1.mono h0.size))).mono (fun e w' he => show ∃ b0 d0 ys b2 d2 b5 d5 us, e = .returned (.agg #[.slice b0 ys.length d0, .int .i64 L.stack, .slice b2 L.slots.length d2, .int .i64 L.flash, .int .i64 L.ram, .slice b5 us.length d5]) ∧ Z4 zc t n ms L W0 w' o g m b0 d0 ys b2 d2 b5 d5 us from by
    obtain ⟨hb, b0, d0, ys, b2, d2, b5, d5, us, e1, y⟩ := he
    exact ⟨b0, d0, ys, b2, d2, b5, d5, us, e1, hz.below hb, y.mono hz.z.1.size⟩))
  have HSZ := hide (fun (W0 X : World) (o : Option Nat) (g : Nat) (m : List Md) (b0 : Option Addr) (d0 : Nat) (ys : List PB) (b2 : Option Addr) (d2 : Nat) (b5 : Option Addr) (d5 : Nat) (us : List TB) (hz : Z4 #[.slice none 0 0, .slice none 0 0, .slice none 0 0] 50 n ms L W0 X o g m b0 d0 ys b2 d2 b5 d5 us) => (HSP.out g m X hz.z.r hz.z.l b0 d0 ys b2 d2 b5 d5 us _ hz.y).mono (fun e w' he => show ∃ p1 n1 q1 p2 n2 q2 p3 n3 q3, e = .returned (.tuple #[.agg #[.slice p1 n1 q1, .slice p2 n2 q2, .slice p3 n3 q3], .bool ok]) ∧ Z5 ps L W0 w' o p1 n1 q1 p2 n2 q2 p3 n3 q3 from by
    obtain ⟨hb, p1, n1, q1, p2, n2, q2, p3, n3, q3, e1, O⟩ := he
    exact ⟨p1, n1, q1, p2, n2, q2, p3, n3, q3, e1, hz.z.z.below hb, _, hz.z.z.1.size, O, fun g e => (hz.z.z.2 g e).2.lt⟩))
  have HIZ := hide (fun (W0 X : World) (o : Option Nat) (g : Nat) (m : List Md) (b0 : Option Addr) (d0 : Nat) (ys : List PB) (b2 : Option Addr) (d2 : Nat) (b5 : Option Addr) (d5 : Nat) (us : List TB) (hz : Z4 #[.slice none 0 0, .slice none 0 0, .slice none 0 0] 50 n ms L W0 X o g m b0 d0 ys b2 d2 b5 d5 us) => (HIM.out g m X hz.z.r hz.z.l b0 d0 ys b2 d2 b5 d5 us _ hz.y).mono (fun e w' he => show ∃ p1 n1 q1 p2 n2 q2 p3 n3 q3, e = .returned (.tuple #[.agg #[.slice p1 n1 q1, .slice p2 n2 q2, .slice p3 n3 q3], .bool ok]) ∧ Z5 ps L W0 w' o p1 n1 q1 p2 n2 q2 p3 n3 q3 from by
    obtain ⟨hb, p1, n1, q1, p2, n2, q2, p3, n3, q3, e1, O⟩ := he
    exact ⟨p1, n1, q1, p2, n2, q2, p3, n3, q3, e1, hz.z.z.below hb, _, hz.z.z.1.size, O, fun g e => (hz.z.z.2 g e).2.lt⟩))
  have hw1 : w.heap.size < v1.heap.size := HBK.out.2.lt
  have HY1 := hide (zb_new #[.slice none 0 0, .slice none 0 0, .slice none 0 0] 50 v1)
  have HCL := hide (fun (W : World) (hb : Below v1.heap.size v1 W) => (HBK.out.2.below hb).ly6)
  go_wp2_with fail
  apply cutI (F := fun gm b0 d0 ys b2 d2 b5 d5 us gb p1 n1 q1 p2 n2 q2 p3 n3 q3 W => Fin6 ps L v1 gb p1 n1 q1 p2 n2 q2 p3 n3 q3 W)
  · intro REST0
    have REST := hide REST0
    clear REST0
    go_region_held3 (fun w' => w'.cell? ⟨w.heap.size, 0, none⟩ = some (.slice a0 xs.length c0) ∧ w'.cell? ⟨w.heap.size, 1, none⟩ = some (.int .i64 L.stack) ∧ w'.cell? ⟨w.heap.size, 2, none⟩ = some (.slice a2 L.slots.length c2) ∧ w'.cell? ⟨w.heap.size, 3, none⟩ = some (.int .i64 L.flash) ∧ w'.cell? ⟨w.heap.size, 4, none⟩ = some (.int .i64 L.ram) ∧ w'.cell? ⟨w.heap.size, 5, none⟩ = some (.slice a5 ts.length c5)) (go_keep)
      (first
        | (go_at_call 12; first
            | with_reducible refine (HTZ.out _ _ v1 _ none HBK.out.1 HY1.out).mono ?_
            | with_reducible refine (HTZ.out _ _ v1 _ none HBK.out.1 HY1.out.drew).mono ?_
            | with_reducible refine (HTZ.out _ _ v1 _ _ HBK.out.1 HY1.out.box).mono ?_
            | with_reducible refine (HTZ.out _ _ v1 _ _ HBK.out.1 HY1.out.box.drew).mono ?_
            | with_reducible refine (HTZ.out _ _ v1 _ _ HBK.out.1 HY1.out.drew.box).mono ?_
           rintro e x2 ⟨rfl, xm2, hY2⟩
           try simp only [World.size_alloc, drew_sz'] at hY2
           have xY2 := hide hY2
           clear hY2
           obtain ⟨xd0, xd1, xd2, xd3, xd4, xd5⟩ := HCL.out x2 xY2.out.z.1)
        | (go_at_call 13; first
            | with_reducible refine (HYZ.out _ _ v1 _ none _ _ HBK.out.1 xY2.out).mono ?_
            | with_reducible refine (HYZ.out _ _ v1 _ none _ _ HBK.out.1 xY2.out.drew).mono ?_
            | with_reducible refine (HYZ.out _ _ v1 _ _ _ _ HBK.out.1 xY2.out).mono ?_
            | with_reducible refine (HYZ.out _ _ v1 _ _ _ _ HBK.out.1 xY2.out.box).mono ?_
            | with_reducible refine (HYZ.out _ _ v1 _ _ _ _ HBK.out.1 xY2.out.drew.box).mono ?_
           rintro e x3 ⟨b0, d0, ys, b2, d2, b5, d5, us, rfl, hY3⟩
           have xY3 := hide hY3
           clear hY3
           obtain ⟨xe0, xe1, xe2, xe3, xe4, xe5⟩ := HCL.out x3 xY3.out.z.z.1)
        | (go_at_call 22; first
            | with_reducible refine (HSZ.out v1 _ none _ _ _ _ _ _ _ _ _ _ xY3.out).mono ?_
            | with_reducible refine (HSZ.out v1 _ none _ _ _ _ _ _ _ _ _ _ xY3.out.drew).mono ?_
            | with_reducible refine (HSZ.out v1 _ _ _ _ _ _ _ _ _ _ _ _ xY3.out).mono ?_
            | with_reducible refine (HSZ.out v1 _ _ _ _ _ _ _ _ _ _ _ _ xY3.out.box).mono ?_
            | with_reducible refine (HSZ.out v1 _ _ _ _ _ _ _ _ _ _ _ _ xY3.out.drew.box).mono ?_
           rintro e x4 ⟨p1, n1, q1, p2, n2, q2, p3, n3, q3, rfl, hY4⟩
           have xY4 := hide hY4
           clear hY4
           obtain ⟨xf0, xf1, xf2, xf3, xf4, xf5⟩ := HCL.out x4 xY4.out.z.1
           first
             | (have kz := (xY4.out.z.2 _ rfl).2
                obtain ⟨z0, z1, z2, z3⟩ := kz.three
                have y0 := kz.frozen 0
                have y1 := kz.frozen 1
                have y2 := kz.frozen 2
                have hne := Nat.ne_of_lt (Nat.lt_of_lt_of_le hw1 (xY4.out.z.2 _ rfl).1)
                have hne' := hne.symm
                clear kz)
             | skip))
    · have HF := hide xY4.out.fin
      generalize x4.alloc (.cells #[.slice p1 n1 q1, .slice p2 n2 q2, .slice p3 n3 q3] 50) = W' at HF ⊢
      generalize x4.heap.size = gb' at HF ⊢
      generalize v1.heap.size = gm'
      exact REST.out gm' b0 d0 ys b2 d2 b5 d5 us gb' p1 n1 q1 p2 n2 q2 p3 n3 q3 W' HF.out
    all_goals exact REST.out _ _ _ _ _ _ _ _ _ _ _ _ _ _ _ _ _ _ _ _ xY4.out.fin'
  · rintro gm b0 d0 ys b2 d2 b5 d5 us gb p1 n1 q1 p2 n2 q2 p3 n3 q3 W5 hF
    show Exit.then _ _ _ _ _
    have HKp := hide (show Km #[.slice a0 xs.length c0, .int .i64 L.stack, .slice a2 L.slots.length c2, .int .i64 L.flash, .int .i64 L.ram, .slice a5 ts.length c5] 27 v1.heap.size ps L w W5 gb p1 n1 q1 p2 n2 q2 p3 n3 q3 W5 from ⟨HBK.out.1.trans (hF.b.mono HBK.out.1.size), HBK.out.2.below hF.b, hF.k, hF.m, hF.m, ⟨Nat.lt_of_lt_of_le hw1 hF.b.size, hF.k.lt⟩, Nat.le_refl _⟩)
    generalize v1.heap.size = base at HKp
    clear hF hw1 HBK HCL HSZ HSP HY1 x0 x1 x2 x3 x4 x5
    go_wp2_with fail
    refine (HT.out W5 HKp.out.be).mono ?_
    rintro e w6 ⟨rfl, ⟨mx, lx, rx⟩, hb6⟩
    have K6 := HKp.out.below hb6
    have hs6 : W5.heap.size < w6.heap.size := by obtain ⟨⟨cur, hc, _⟩, _⟩ := rx; exact hc.lt
    have HRX := hide rx
    clear hb6 rx
    have x0 : w6.cell? ⟨w.heap.size, 0, none⟩ = some (.slice a0 xs.length c0) := K6.kc.cell 0
    have x1 : w6.cell? ⟨w.heap.size, 1, none⟩ = some (.int .i64 L.stack) := K6.kc.cell 1
    have x2 : w6.cell? ⟨w.heap.size, 2, none⟩ = some (.slice a2 L.slots.length c2) := K6.kc.cell 2
    have x3 : w6.cell? ⟨w.heap.size, 3, none⟩ = some (.int .i64 L.flash) := K6.kc.cell 3
    have x4 : w6.cell? ⟨w.heap.size, 4, none⟩ = some (.int .i64 L.ram) := K6.kc.cell 4
    have x5 : w6.cell? ⟨w.heap.size, 5, none⟩ = some (.slice a5 ts.length c5) := K6.kc.cell 5
    go_wp2_with fail
    refine (HTL.out w6 K6.be).mono ?_
    rintro e w7 ⟨hb7, e0, f0, zs, e2, f2, e5, f5, vs, rfl, Y7⟩
    have hA7 : Below w7.heap.size w7 (w7.alloc (.cells #[.slice e0 zs.length f0, .int .i64 L.stack, .slice e2 L.slots.length f2, .int .i64 L.flash, .int .i64 L.ram, .slice e5 vs.length f5] 36)) := (Below.refl _ _).alloc (Nat.le_refl _) _
    have k7 := Blk.new w7 #[.slice e0 zs.length f0, .int .i64 L.stack, .slice e2 L.slots.length f2, .int .i64 L.flash, .int .i64 L.ram, .slice e5 vs.length f5] 36
    have K7 := (K6.below hb7).below hA7
    have B7 := hb7.trans (hA7.mono hb7.size)
    have hs7 := hb7.size
    have HY7 := hide Y7
    have Y8 := Y7.below' hA7
    clear K6 hb7 hA7 Y7 x0 x1 x2 x3 x4 x5
    obtain ⟨x0, x1, x2, x3, x4, x5⟩ := k7.ly6
    have hsA : (w7.alloc (.cells #[.slice e0 zs.length f0, .int .i64 L.stack, .slice e2 L.slots.length f2, .int .i64 L.flash, .int .i64 L.ram, .slice e5 vs.length f5] 36)).heap.size = w7.heap.size + 1 := by simp
    go_wp2_with fail
    clear x0 x1 x2 x3 x4 x5
    generalize w7.alloc (.cells #[.slice e0 zs.length f0, .int .i64 L.stack, .slice e2 L.slots.length f2, .int .i64 L.flash, .int .i64 L.ram, .slice e5 vs.length f5] 36) = W7 at *
    generalize hg7 : w7.heap.size = g7 at *
    have HG7 := hide hg7
    clear hg7
    refine (HIM.out _ mx W7 (HRX.out.below B7) lx e0 f0 zs e2 f2 e5 f5 vs _ Y8).mono ?_
    rintro e w8 ⟨hb8, r1, m1, s1, r2, m2, s2, r3, m3, s3, rfl, O8⟩
    have hA8 : Below w8.heap.size w8 (w8.alloc (.cells #[.slice r1 m1 s1, .slice r2 m2 s2, .slice r3 m3 s3] 50)) := (Below.refl _ _).alloc (Nat.le_refl _) _
    have k8 := Blk.new w8 #[.slice r1 m1 s1, .slice r2 m2 s2, .slice r3 m3 s3] 50
    have K8 := (K7.below hb8).below hA8
    have B8 := (B7.trans (hb8.mono B7.size)).trans (hA8.mono (B7.trans (hb8.mono B7.size)).size)
    have kx8 := (k7.below hb8).below hA8
    have Y9 := (Y8.below' hb8).below' hA8
    have hs8 := hb8.size
    have HO8 := hide O8
    have O9 := O8.below hA8
    clear K7 B7 hb8 hA8 O8 k7 Y8
    obtain ⟨x0, x1, x2, x3⟩ := K8.kw.three
    obtain ⟨y0, y1, y2, y3⟩ := k8.three
    go_wp2_with fail
    clear x0 x1 x2 x3 y0 y1 y2 y3
    generalize w8.alloc (.cells #[.slice r1 m1 s1, .slice r2 m2 s2, .slice r3 m3 s3] 50) = W8 at *
    generalize hg8 : w8.heap.size = g8 at *
    have HG8 := hide hg8
    clear hg8
    refine (eqMem_same _ _ _ _ _ _ _ _ _ _ _ _ _ _ _ _ _ _ _ _ _ _ O9.o1.bs O9.o2.bs O9.o3.bs K8.mw.o1.bs K8.mw.o2.bs K8.mw.o3.bs).mono ?_
    rintro e w9 ⟨rfl, hb9⟩
    have K9 := K8.below hb9
    have B9 := B8.trans (hb9.mono B8.size)
    have k9 := k8.below hb9
    have kx9 := kx8.below hb9
    have Y9' := Y9.below' hb9
    have O9' := O9.below hb9
    clear K8 B8 k8 kx8 Y9 O9 hb9
    go_wp2_with fail
    refine (HT.out w9 K9.be).mono ?_
    rintro e w10 ⟨rfl, ⟨my, ly, ry⟩, hb10⟩
    have K10 := K9.below hb10
    have B10 := B9.trans (hb10.mono B9.size)
    have k10 := k9.below hb10
    have kx10 := kx9.below hb10
    have Y10 := Y9'.below' hb10
    have O10 := O9'.below hb10
    clear K9 B9 k9 kx9 Y9' O9' hb10
    go_wp2_with fail
    refine (eqModuleS_same _ _ n n n mx my _ ((HRX.out.below B10).ms lx HH.out) (ry.ms ly HH.out) (RowM.same HH.out (HRX.out.below B10) lx ry ly)).mono ?_
    rintro e w11 ⟨rfl, hb11⟩
    have K11 := K10.below hb11
    have B11 := B10.trans (hb11.mono B10.size)
    have k11 := k10.below hb11
    have kx11 := kx10.below hb11
    have Y11 := Y10.below' hb11
    have O11 := O10.below hb11
    clear K10 B10 k10 kx10 Y10 O10 hb11 ry
    have HA11 := hide (And.intro K11 (And.intro B11 (And.intro k11 (And.intro kx11 (And.intro Y11 O11)))))
    have HCX := hide (fun (W : World) (hb : Below w11.heap.size w11 W) => And.intro (HA11.out.1.kc.below hb).ly6 (HA11.out.2.2.2.1.below hb).ly6)
    obtain ⟨⟨x0, x1, x2, x3, x4, x5⟩, ⟨y0, y1, y2, y3, y4, y5⟩⟩ := HCX.out _ (Below.refl _ _)
    have HTX := hide (fun (X : World) (hb : Below w11.heap.size w11 X) => (HTL.out X (HA11.out.1.be.trans (hb.mono HA11.out.1.be.size))).mono (fun e w' he => show ∃ b0 d0 ys b2 d2 b5 d5 us, e = .returned (.agg #[.slice b0 ys.length d0, .int .i64 L.stack, .slice b2 L.slots.length d2, .int .i64 L.flash, .int .i64 L.ram, .slice b5 us.length d5]) ∧ Below w11.heap.size w11 w' ∧ LayO w' X.heap.size L b0 d0 ys b2 d2 b5 d5 us from by
      obtain ⟨hb2, b0, d0, ys, b2, d2, b5, d5, us, e1, y⟩ := he
      exact ⟨b0, d0, ys, b2, d2, b5, d5, us, e1, hb.trans (hb2.mono hb.size), y⟩))
    clear K11 B11 k11 kx11 Y11 O11
    go_wp2_with fail
    go_region_held3 (fun w' => w'.cell? ⟨w.heap.size, 0, none⟩ = some (.slice a0 xs.length c0) ∧ w'.cell? ⟨w.heap.size, 1, none⟩ = some (.int .i64 L.stack) ∧ w'.cell? ⟨w.heap.size, 2, none⟩ = some (.slice a2 L.slots.length c2) ∧ w'.cell? ⟨w.heap.size, 3, none⟩ = some (.int .i64 L.flash) ∧ w'.cell? ⟨w.heap.size, 4, none⟩ = some (.int .i64 L.ram) ∧ w'.cell? ⟨w.heap.size, 5, none⟩ = some (.slice a5 ts.length c5) ∧ w'.cell? ⟨g7, 0, none⟩ = some (.slice e0 zs.length f0) ∧ w'.cell? ⟨g7, 1, none⟩ = some (.int .i64 L.stack) ∧ w'.cell? ⟨g7, 2, none⟩ = some (.slice e2 L.slots.length f2) ∧ w'.cell? ⟨g7, 3, none⟩ = some (.int .i64 L.flash) ∧ w'.cell? ⟨g7, 4, none⟩ = some (.int .i64 L.ram) ∧ w'.cell? ⟨g7, 5, none⟩ = some (.slice e5 vs.length f5)) (go_keep)
      (first
        | (go_at_call 13; first
            | with_reducible refine (HTX.out _ (Below.refl _ _)).mono ?_
            | with_reducible refine (HTX.out _ (Below.refl _ _).drew).mono ?_
           rintro e j2 ⟨b0, d0, ys, b2, d2, b5, d5, us, rfl, hj2, yj2⟩
           have HJ2 := hide (And.intro hj2 yj2)
           clear hj2 yj2
           obtain ⟨⟨u0', u1', u2', u3', u4', u5'⟩, ⟨v0', v1', v2', v3', v4', v5'⟩⟩ := HCX.out _ HJ2.out.1)
        | (go_at_call 16; refine (eqLayout_same HR.out (HA11.out.2.2.2.2.1.below' HJ2.out.1) HJ2.out.2).mono ?_
           rintro e j3 ⟨rfl, hj3⟩
           have HJ3 := hide (HJ2.out.1.trans (hj3.mono HJ2.out.1.size))
           clear hj3
           obtain ⟨⟨u0'', u1'', u2'', u3'', u4'', u5''⟩, ⟨v0'', v1'', v2'', v3'', v4'', v5''⟩⟩ := HCX.out _ HJ3.out))
    clear x0 x1 x2 x3 x4 x5 y0 y1 y2 y3 y4 y5 u0' u1' u2' u3' u4' u5' v0' v1' v2' v3' v4' v5' u0'' u1'' u2'' u3'' u4'' u5'' v0'' v1'' v2'' v3'' v4'' v5''
    have hj3 := HJ3.out
    obtain ⟨K11, B11, k11, kx11, Y11, O11⟩ := HA11.out
    have K12 := K11.below hj3
    have B12 := B11.trans (hj3.mono B11.size)
    have k12 := k11.below hj3
    have kx12 := kx11.below hj3
    have Y12 := Y11.below' hj3
    have O12 := O11.below hj3
    clear K11 B11 k11 kx11 Y11 O11 hj3 HJ3 HJ2 HA11 HCX HTX
    obtain ⟨z1, z2, z3⟩ := rowm_cnt HRX.out lx HH.out HZS.out
    have z4 := rowm_cnt3 HRX.out lx HH.out
    rw [← HQ1.out] at z4
    have HMK := hide (markModuleS_sl (Sm w6 W5.heap.size) W5.heap.size n n 1 mx (fun i => bnF (mx.getD i zMd)) j3 ((rowm_mrs HRX.out lx HH.out).kept (Mkd.below B12)) (by omega) z2 z3 hn)
    obtain ⟨KM, hKM⟩ : ∃ KM, KM = 1 + upS (cntM mx (fun i => bnF (mx.getD i zMd))) n := ⟨_, rfl⟩
    rw [← hKM] at HMK
    have hKB : KM ≤ 1 + 3 * Q1 := by omega
    clear hKM z1 z2 z3 z4
    have HKB := hide (And.intro K12 (And.intro k12 (And.intro kx12 (And.intro Y12 O12))))
    clear K12 B12 k12 kx12 Y12 O12
    go_wp2_with fail
    refine HMK.out.mono ?_
    rintro e w12 ⟨rfl, M12⟩
    have hg7 := HG7.out
    have hg8 := HG8.out
    obtain ⟨K12, k12, kx12, Y12, O12⟩ := HKB.out
    have K13 := K12.turn M12.turn (fun j hj => by rcases hj with hj | hj; exact Nat.le_of_lt hj.1; omega)
    have k13 := turn_blk M12.turn k12 (fun hs => by rcases hs with hs | hs; have := hs.2.1; omega; omega)
    have kx13 := turn_blk M12.turn kx12 (fun hs => by rcases hs with hs | hs; have := hs.2.1; omega; omega)
    have Y13 := Y12.kept M12.turn (fun j hj _ hs => by rcases hs with hs | hs; have := hs.2.1; omega; omega)
    have O13 := O12.kept M12.turn (fun j hj hs => by have := (HO8.out.lt hj).1; rcases hs with hs | hs; have := hs.2.1; omega; omega)
    clear K12 k12 kx12 Y12 O12 M12 HMK HKB
    have hzs : zs.map (fun x => x.1) = xs.map (fun x => x.1) := Y13.ps.trans HHL.out.ps.symm
    have hvs : vs.map (fun x => x.1) = ts.map (fun x => x.1) := Y13.tt.trans HHL.out.tt.symm
    have hsz : lySz L zs vs = lySz L xs ts := lySz_eq hzs hvs
    have HBN := hide (show zs.length ≤ 1048576 ∧ (∀ i, i < zs.length → (plF zs i).2.1 ≤ 1048576) ∧ L.slots.length ≤ 1048576 ∧ vs.length ≤ 1048576 ∧ (∀ i, i < vs.length → (tbF vs i).1.length ≤ 1048576) ∧ KM + sumP (plF zs) zs.length + L.slots.length + sumT (tbF vs) vs.length ≤ 4194304 from by
      have h1 := HQS.out
      have h2 := sumP_le3 zs zs.length
      have h3 := sumT_le3 vs vs.length
      rw [← hsz] at h1
      unfold lySz plSz tsSz at h1
      refine ⟨by omega, fun i hi => ?_, by omega, by omega, fun i hi => ?_, by omega⟩
      · have h4 := upS_le (fun j => (zs.getD j zPB).1.banks.length) zs.length i hi
        show (zs.getD i zPB).1.banks.length ≤ _
        omega
      · have h4 := upS_le (fun j => (vs.getD j zTB).1.length) vs.length i hi
        show (vs.getD i zTB).1.length ≤ _
        omega)
    clear hzs hvs hsz
    have HML := hide (markLayout_big e0 zs.length f0 L.stack e2 L.slots.length f2 L.flash L.ram e5 vs.length f5 KM w6.heap.size (plF zs) (plV zs) (plX zs) L.slots (tbF vs) (tbX vs) w12 (Y13.y3 HR.out) HBN.out.1 HBN.out.2.1 HBN.out.2.2.1 HBN.out.2.2.2.1 HBN.out.2.2.2.2.1 HBN.out.2.2.2.2.2)
    have HSY := hide (fun j (hj : Sy e0 zs.length (plF zs) (.slice e2 L.slots.length f2) vs.length (tbF vs) j) => (HY7.out.y3 HR.out).lt hj)
    obtain ⟨QM, hQM⟩ : ∃ QM, QM = KM + sumP (plF zs) zs.length + L.slots.length + sumT (tbF vs) vs.length := ⟨_, rfl⟩
    rw [← hQM] at HML
    have hQ0 : ¬ ((QM : Int) < 0) := by omega
    clear hQM
    obtain ⟨x0, x1, x2, x3, x4, x5⟩ := kx13.ly6
    have HKB := hide (And.intro K13 (And.intro k13 O13))
    clear K13 k13 kx13 O13 Y13
    go_wp2_with fail
    refine HML.out.mono ?_
    rintro e w13 ⟨rfl, _, T13⟩
    obtain ⟨K13, k13, O13⟩ := HKB.out
    have K14 := K13.turn T13 (fun j hj => by have := HSY.out j hj; omega)
    have k14 := turn_blk T13 k13 (fun hj => by have := HSY.out _ hj; omega)
    have O14 := O13.kept T13 (fun j hj hs => by have := HSY.out _ hs; have := (HO8.out.lt hj).1; omega)
    clear K13 k13 O13 T13 HML HKB HSY x0 x1 x2 x3 x4 x5
    obtain ⟨x0, x1, x2, x3⟩ := K14.kw.three
    obtain ⟨y0, y1, y2, y3⟩ := k14.three
    go_wp2_with fail
    refine (eqMem_same _ _ _ _ _ _ _ _ _ _ _ _ _ _ _ _ _ _ _ _ _ _ O14.o1.bs O14.o2.bs O14.o3.bs K14.mw.o1.bs K14.mw.o2.bs K14.mw.o3.bs).mono ?_
    rintro e w14 ⟨rfl, hb14⟩
    have K15 := K14.below hb14
    have k15 := k14.below hb14
    have O15 := O14.below hb14
    clear K14 k14 O14 hb14 x0 x1 x2 x3 y0 y1 y2 y3
    have hmm : m1 + m2 + m3 ≤ 2097152 := by
      have h1 := O15.o1.bs.1
      have h2 := O15.o2.bs.1
      have h3 := O15.o3.bs.1
      have h4 := HFL.out
      simp at h3
      omega
    obtain ⟨y0, y1, y2, y3⟩ := k15.three
    have HKB := hide (And.intro K15 k15)
    have HMM := hide (markMem_om r1 r2 r3 m1 s1 m2 s2 m3 s3 _ _ _ _ w14 O15 hmm)
    clear K15 k15 O15
    obtain ⟨QQ, hQQ⟩ : ∃ QQ, QQ = 1 + m1 + m2 + m3 := ⟨_, rfl⟩
    rw [← hQQ] at HMM
    have hQQ0 : ¬ ((QQ : Int) < 0) := by omega
    have hQQn : ((QQ : Int) != (QQ : Int)) = false := by simp
    have HMH := hide (fun (W : World) h1 h2 h3 => by
      have := heldMem_any r1 r2 r3 m1 s1 m2 s2 m3 s3 W h1 h2 h3 hmm
      rw [← hQQ] at this
      exact this)
    clear hQQ hmm
    go_wp2_with fail
    refine HMM.out.mono ?_
    rintro e w15 ⟨rfl, O16, T15⟩
    obtain ⟨K15, k15⟩ := HKB.out
    have K16 := K15.turn T15 (fun j hj => by have := (HO8.out.lt hj).1; omega)
    have k16 := turn_blk T15 k15 (fun hj => by have := (HO8.out.lt hj).2; omega)
    clear K15 k15 T15 HMM HKB y0 y1 y2 y3
    obtain ⟨y0, y1, y2, y3⟩ := k16.three
    have HO16 := hide O16
    have HKB := hide (And.intro K16 k16)
    clear O16 K16 k16
    go_wp2_with fail
    refine (HMH.out w15 HO16.out.o1.bs HO16.out.o2.bs HO16.out.o3.bs).mono ?_
    rintro e w16 ⟨rfl, hb16⟩
    have K17 := HKB.out.1.below hb16
    have HKp17 := hide K17
    clear hb16 HKB HO16 HMH y0 y1 y2 y3
    have x0 : w16.cell? ⟨w.heap.size, 0, none⟩ = some (.slice a0 xs.length c0) := K17.kc.cell 0
    have x1 : w16.cell? ⟨w.heap.size, 1, none⟩ = some (.int .i64 L.stack) := K17.kc.cell 1
    have x2 : w16.cell? ⟨w.heap.size, 2, none⟩ = some (.slice a2 L.slots.length c2) := K17.kc.cell 2
    have x3 : w16.cell? ⟨w.heap.size, 3, none⟩ = some (.int .i64 L.flash) := K17.kc.cell 3
    have x4 : w16.cell? ⟨w.heap.size, 4, none⟩ = some (.int .i64 L.ram) := K17.kc.cell 4
    have x5 : w16.cell? ⟨w.heap.size, 5, none⟩ = some (.slice a5 ts.length c5) := K17.kc.cell 5
    have hw17 : w.heap.size < w16.heap.size := K17.kc.lt
    clear K17 HRX HG7 HG8 hg7 hg8 HKp hs6 hs7 hs8 HY7 HO8 HBN hKB hsA
    have HY17 := hide (zb_new #[.slice none 0 0, .slice none 0 0, .slice none 0 0] 50 w16)
    have HCL2 := hide (fun (W : World) (hb : Below w16.heap.size w16 W) => (HKp17.out.kc.below hb).ly6)
    go_wp2_with fail
    apply cutI (F := fun gm b0 d0 ys b2 d2 b5 d5 us gb p1 n1 q1 p2 n2 q2 p3 n3 q3 W => Fin6 ps L w16 gb p1 n1 q1 p2 n2 q2 p3 n3 q3 W)
    · intro REST0
      have REST := hide REST0
      clear REST0
      go_region_held3 (fun w' => w'.cell? ⟨w.heap.size, 0, none⟩ = some (.slice a0 xs.length c0) ∧ w'.cell? ⟨w.heap.size, 1, none⟩ = some (.int .i64 L.stack) ∧ w'.cell? ⟨w.heap.size, 2, none⟩ = some (.slice a2 L.slots.length c2) ∧ w'.cell? ⟨w.heap.size, 3, none⟩ = some (.int .i64 L.flash) ∧ w'.cell? ⟨w.heap.size, 4, none⟩ = some (.int .i64 L.ram) ∧ w'.cell? ⟨w.heap.size, 5, none⟩ = some (.slice a5 ts.length c5)) (go_keep)
        (first
          | (go_at_call 12; first
              | with_reducible refine (HTZ.out _ _ w16 _ none HKp17.out.be HY17.out).mono ?_
              | with_reducible refine (HTZ.out _ _ w16 _ none HKp17.out.be HY17.out.drew).mono ?_
              | with_reducible refine (HTZ.out _ _ w16 _ _ HKp17.out.be HY17.out.box).mono ?_
              | with_reducible refine (HTZ.out _ _ w16 _ _ HKp17.out.be HY17.out.box.drew).mono ?_
              | with_reducible refine (HTZ.out _ _ w16 _ _ HKp17.out.be HY17.out.drew.box).mono ?_
             rintro e qq2 ⟨rfl, qqm2, hY2⟩
             try simp only [World.size_alloc, drew_sz'] at hY2
             have qqY2 := hide hY2
             clear hY2
             obtain ⟨qqd0, qqd1, qqd2, qqd3, qqd4, qqd5⟩ := HCL2.out qq2 qqY2.out.z.1)
          | (go_at_call 13; first
              | with_reducible refine (HYZ.out _ _ w16 _ none _ _ HKp17.out.be qqY2.out).mono ?_
              | with_reducible refine (HYZ.out _ _ w16 _ none _ _ HKp17.out.be qqY2.out.drew).mono ?_
              | with_reducible refine (HYZ.out _ _ w16 _ _ _ _ HKp17.out.be qqY2.out).mono ?_
              | with_reducible refine (HYZ.out _ _ w16 _ _ _ _ HKp17.out.be qqY2.out.box).mono ?_
              | with_reducible refine (HYZ.out _ _ w16 _ _ _ _ HKp17.out.be qqY2.out.drew.box).mono ?_
             rintro e qq3 ⟨b0, d0, ys, b2, d2, b5, d5, us, rfl, hY3⟩
             have qqY3 := hide hY3
             clear hY3
             obtain ⟨qqe0, qqe1, qqe2, qqe3, qqe4, qqe5⟩ := HCL2.out qq3 qqY3.out.z.z.1)
          | (go_at_call 23; first
              | with_reducible refine (HIZ.out w16 _ none _ _ _ _ _ _ _ _ _ _ qqY3.out).mono ?_
              | with_reducible refine (HIZ.out w16 _ none _ _ _ _ _ _ _ _ _ _ qqY3.out.drew).mono ?_
              | with_reducible refine (HIZ.out w16 _ _ _ _ _ _ _ _ _ _ _ _ qqY3.out).mono ?_
              | with_reducible refine (HIZ.out w16 _ _ _ _ _ _ _ _ _ _ _ _ qqY3.out.box).mono ?_
              | with_reducible refine (HIZ.out w16 _ _ _ _ _ _ _ _ _ _ _ _ qqY3.out.drew.box).mono ?_
             rintro e qq4 ⟨t1, k1, u1, t2, k2, u2, t3, k3, u3, rfl, hY4⟩
             have qqY4 := hide hY4
             clear hY4
             obtain ⟨qqf0, qqf1, qqf2, qqf3, qqf4, qqf5⟩ := HCL2.out qq4 qqY4.out.z.1
             first
               | (have kz := (qqY4.out.z.2 _ rfl).2
                  obtain ⟨z0, z1, z2, z3⟩ := kz.three
                  have y0 := kz.frozen 0
                  have y1 := kz.frozen 1
                  have y2 := kz.frozen 2
                  have hne := Nat.ne_of_lt (Nat.lt_of_lt_of_le hw17 (qqY4.out.z.2 _ rfl).1)
                  have hne' := hne.symm
                  clear kz)
               | skip))
      · have HF := hide qqY4.out.fin
        generalize qq4.alloc (.cells #[.slice t1 k1 u1, .slice t2 k2 u2, .slice t3 k3 u3] 50) = W' at HF ⊢
        generalize qq4.heap.size = gb' at HF ⊢
        generalize w16.heap.size = gm'
        exact REST.out gm' b0 d0 ys b2 d2 b5 d5 us gb' t1 k1 u1 t2 k2 u2 t3 k3 u3 W' HF.out
      all_goals exact REST.out _ _ _ _ _ _ _ _ _ _ _ _ _ _ _ _ _ _ _ _ qqY4.out.fin'
    · rintro gm' b0 d0 ys b2 d2 b5 d5 us gb' t1 k1 u1 t2 k2 u2 t3 k3 u3 W18 hF
      show Exit.then _ _ _ _ _
      have K18 := HKp17.out.below hF.b
      have k18 := hF.k
      have O18 := hF.m
      clear hF x0 x1 x2 x3 x4 x5 hw17 HCL2 HY17 HKp17
      obtain ⟨x0, x1, x2, x3⟩ := K18.kw.three
      obtain ⟨y0, y1, y2, y3⟩ := k18.three
      go_wp2_with fail
      refine (eqMem_same _ _ _ _ _ _ _ _ _ _ _ _ _ _ _ _ _ _ _ _ _ _ O18.o1.bs O18.o2.bs O18.o3.bs K18.mw.o1.bs K18.mw.o2.bs K18.mw.o3.bs).mono ?_
      rintro e w19 ⟨rfl, hb19⟩
      have HB := hide (K18.below hb19).be
      clear K18 k18 O18 hb19 x0 x1 x2 x3 y0 y1 y2 y3
      go_wp2
      go_ret
      exact ⟨rfl, HB.out⟩
end Go.Proofs.YtngdgogjlpjjpaeGreat
