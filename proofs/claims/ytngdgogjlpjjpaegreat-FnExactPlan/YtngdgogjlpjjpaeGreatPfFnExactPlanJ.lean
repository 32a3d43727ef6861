import Derived.Test.YtngdgogjlpjjpaeGreatJ48
import Derived.Test.YtngdgogjlpjjpaeGreatJ50
import Derived.Deep.RegionHeld3
import Derived.Test.YtngdgogjlpjjpaeGreatJ00
import Derived.ProofKit
import Derived.OpenShut
import Derived.ShutString
import Derived.ChangeOld
import Derived.Test.YtngdgogjlpjjpaeGreatJ14
import Derived.Deep.Slices
import Derived.Test.YtngdgogjlpjjpaeGreatJ19
import Derived.ChangeMaps5
import Derived.Test.YtngdgogjlpjjpaeGreatJ38
namespace Go.Proofs.YtngdgogjlpjjpaeGreat
open Go.RowKit
set_option linter.unusedVariables false
set_option linter.unusedSimpArgs false
set_option maxRecDepth 100000

theorem ORg.bl {w w' : World} {base : Nat} {v : Value} {rs : List Rg} (h : ORg w base v rs) (hb : Below w.heap.size w w') : ORg w' base v rs := turn_or' (turn_below hb) h (fun _ _ h => h)
/-- what must stay: the arguments' boxes, the first answer -/
structure Kn (cf : Array Value) (tc : TypeId) (ct : Array Value) (tt : TypeId) (base : Nat) (R : List Rg) (w W5 : World) (p : Option Addr) (k q : Nat) (W : World) : Prop where
  be : Below w.heap.size w W
  kc : Blk W w.heap.size cf tc
  kt : Blk W (w.heap.size + 1) ct tt
  mw : ORg W base (.slice p k q) R
  m5 : ORg W5 base (.slice p k q) R
  n5 : w.heap.size + 1 < W5.heap.size
  w5 : W5.heap.size ≤ W.heap.size
section
variable {cf : Array Value} {tc : TypeId} {ct : Array Value} {tt : TypeId} {base : Nat} {R : List Rg} {w W5 W W' : World} {p : Option Addr} {k q : Nat}
theorem Kn.turn {S : Nat → Prop} (h : Kn cf tc ct tt base R w W5 p k q W) (t : Turn S W W') (hS : ∀ j, S j → W5.heap.size ≤ j) : Kn cf tc ct tt base R w W5 p k q W' :=
  ⟨below_turn h.be t (fun k s => by have := hS k s; have := h.n5; omega) h.be.size, turn_blk t h.kc (fun s => by have := hS _ s; have := h.n5; omega), turn_blk t h.kt (fun s => by have := hS _ s; have := h.n5; omega), turn_or' t h.mw (fun j hj s => by have := hS _ s; have := or_lt h.m5 j hj; omega), h.m5, h.n5, Nat.le_trans h.w5 t.size⟩
theorem Kn.below (h : Kn cf tc ct tt base R w W5 p k q W) (hb : Below W.heap.size W W') : Kn cf tc ct tt base R w W5 p k q W' := h.turn (S := fun _ => False) (turn_below hb) (fun _ s => absurd s id)
end
theorem Blk.tg3 {w : World} {b : Nat} {t : TypeId} {v0 v1 v2 : Value} (h : Blk w b #[v0, v1, v2] t) : w.cell? ⟨b, 0, none⟩ = some v0 ∧ w.cell? ⟨b, 1, none⟩ = some v1 ∧ w.cell? ⟨b, 2, none⟩ = some v2 := ⟨h.cell 0, h.cell 1, h.cell 2⟩
theorem pnV_len (ps : List PMod) (L : Lay) (m b s : Int) : (pnV ps L m b s).length ≤ 8 := by
  unfold pnV
  by_cases c : pnO ps L m b s = true
  · rw [if_pos c]
    unfold pnO at c
    simp only [Bool.and_eq_true, decide_eq_true_eq] at c
    exact c.2
  · rw [if_neg c]; simp
end Go.Proofs.YtngdgogjlpjjpaeGreat

namespace Go.Proofs.YtngdgogjlpjjpaeGreat
open Go.RowKit
set_option linter.unusedVariables false
set_option linter.unusedSimpArgs false
set_option maxRecDepth 100000

set_option maxHeartbeats 16000000 in
theorem exactPlan_walk (a : Option Addr) (n cap : Nat) (ms : List Md) (L : Lay) (a0 : Option Addr) (c0 : Nat) (xs : List PB) (a2 : Option Addr) (c2 : Nat) (a5 : Option Addr) (c5 : Nat) (ts : List TB) (tm tb tt sl : Int) (w : World) (h : MS w a n cap ms) (hL : LyT w L a0 c0 xs a2 c2 a5 c5 ts) :
    Calls Tryz.prog 6 #[.slice a n cap, .agg #[.slice a0 xs.length c0, .int .i64 L.stack, .slice a2 L.slots.length c2, .int .i64 L.flash, .int .i64 L.ram, .slice a5 ts.length c5], .agg #[.int .i64 tm, .int .i64 tb, .int .i64 tt], .int .i64 sl] w fun e w' => e = .returned (.bool true) ∧ Below w.heap.size w w' := by
  have HS := hide (fun w h => szModuleS_any a n cap ms 1048576 w h (by omega) (by omega))
  obtain ⟨U, hU⟩ : ∃ U, U = (w.alloc (.cells #[.slice a0 xs.length c0, .int .i64 L.stack, .slice a2 L.slots.length c2, .int .i64 L.flash, .int .i64 L.ram, .slice a5 ts.length c5] 27)).alloc (.cells #[.int .i64 tm, .int .i64 tb, .int .i64 tt] 67) := ⟨_, rfl⟩
  have HB0 : Below w.heap.size w U := by rw [hU]; exact ((Below.refl _ _).alloc (Nat.le_refl _) _).alloc (by simp) _
  have k0 : Blk U w.heap.size #[.slice a0 xs.length c0, .int .i64 L.stack, .slice a2 L.slots.length c2, .int .i64 L.flash, .int .i64 L.ram, .slice a5 ts.length c5] 27 := by rw [hU]; exact (Blk.new w _ _).alloc _
  have kt0 : Blk U (w.heap.size + 1) #[.int .i64 tm, .int .i64 tb, .int .i64 tt] 67 := by rw [hU]; have := Blk.new (w.alloc (.cells #[.slice a0 xs.length c0, .int .i64 L.stack, .slice a2 L.slots.length c2, .int .i64 L.flash, .int .i64 L.ram, .slice a5 ts.length c5] 27)) #[.int .i64 tm, .int .i64 tb, .int .i64 tt] 67; simpa using this
  have HU := hide hU
  clear hU
  obtain ⟨Q1, hQ1⟩ : ∃ Q1, Q1 = n + upS (fun j => (ms.getD j zMd).size) n := ⟨_, rfl⟩
  rw [← hQ1] at HS
  have HQ1 := hide hQ1
  clear hQ1
  by_cases hz : 1048576 < Q1
  · rw [show szR 1048576 Q1 = -1 by unfold szR; rw [if_pos (by omega)]] at HS
    go_enter Tryz.func6, Tryz.ntmps6
    go_wp2_with (rw [← HU.out])
    refine (HS.out _ (h.below HB0)).mono ?_
    rintro e w1 ⟨rfl, hb1⟩
    go_wp2
    go_ret
    exact ⟨rfl, HB0.trans (hb1.mono HB0.size)⟩
  obtain ⟨Z, hZ⟩ : ∃ Z : Int, Z = 1048576 - (Q1 : Int) := ⟨_, rfl⟩
  rw [show szR 1048576 Q1 = Z by unfold szR; rw [if_neg (by omega)]; omega] at HS
  have hZ0 : ¬ Z < 0 := by omega
  have hZ1 : Z ≤ 1048576 := by omega
  have HZE := hide hZ
  clear hZ
  have HSL := hide (fun (W : World) (hb : Below w.heap.size w W) => szLayout_any L a0 c0 xs a2 c2 a5 c5 ts Z W (hL.below hb) (by omega) (by omega))
  by_cases hy : Z < (lySz L xs ts : Int)
  · rw [show szR Z (lySz L xs ts) = -1 by unfold szR; rw [if_pos hy]] at HSL
    go_enter Tryz.func6, Tryz.ntmps6
    go_wp2_with (rw [← HU.out])
    refine (HS.out _ (h.below HB0)).mono ?_
    rintro e w1 ⟨rfl, hb1⟩
    have B1 := HB0.trans (hb1.mono HB0.size)
    have k1 := k0.below hb1
    obtain ⟨x0, x1, x2, x3, x4, x5⟩ := k1.ly6
    go_wp2_with fail
    refine (HSL.out _ B1).mono ?_
    rintro e w2 ⟨rfl, hb2⟩
    go_wp2
    go_ret
    exact ⟨rfl, B1.trans (hb2.mono B1.size)⟩
  obtain ⟨Z2', hZ2⟩ : ∃ Z2' : Int, Z2' = szR Z (lySz L xs ts) := ⟨_, rfl⟩
  rw [← hZ2] at HSL
  have hZ20 : ¬ Z2' < 0 := by rw [hZ2]; unfold szR; rw [if_neg hy]; omega
  clear hZ2
  have HQS := hide (show Q1 + lySz L xs ts ≤ 1048576 by have := HZE.out; omega)
  have HZ := hide (show ∀ i, i < n → (ms.getD i zMd).size ≤ 1048576 from fun i hi => by have := upS_le (fun j => (ms.getD j zMd).size) n i hi; have := HQ1.out; omega)
  have HZS := hide (show n + upS (fun j => (ms.getD j zMd).size) n ≤ 1048576 by have := HQ1.out; omega)
  have hn : n ≤ 1048576 := by have := HQ1.out; omega
  have HLS := hide (show lySz L xs ts ≤ 1048576 by have := HQS.out; omega)
  have HR := hide (hL.lr HLS.out)
  have HV := hide hL.v
  clear hz hy
  have HT := hide (fun (W : World) (hb : Below w.heap.size w W) => toModuleS_any a n cap ms W (h.below hb) hn HZ.out)
  have HTL := hide (fun (W : World) (hb : Below w.heap.size w W) => show Calls Tryz.prog 13 #[.agg #[.slice a0 xs.length c0, .int .i64 L.stack, .slice a2 L.slots.length c2, .int .i64 L.flash, .int .i64 L.ram, .slice a5 ts.length c5]] W fun e w' => Below W.heap.size W w' ∧ ∃ b0 d0 ys b2 d2 b5 d5 us, e = .returned (.agg #[.slice b0 ys.length d0, .int .i64 L.stack, .slice b2 L.slots.length d2, .int .i64 L.flash, .int .i64 L.ram, .slice b5 us.length d5]) ∧ LayO w' W.heap.size L b0 d0 ys b2 d2 b5 d5 us from toLayout_any L a0 c0 xs a2 c2 a5 c5 ts W (hL.below hb) HLS.out)
  obtain ⟨ps, hps⟩ : ∃ ps, ps = pmS ms := ⟨_, rfl⟩
  obtain ⟨ok, hok⟩ : ∃ ok, ok = pnO ps L tm tb sl := ⟨_, rfl⟩
  obtain ⟨R, hRR⟩ : ∃ R, R = pnV ps L tm tb sl := ⟨_, rfl⟩
  obtain ⟨rn, hrn⟩ : ∃ rn, rn = R.length := ⟨_, rfl⟩
  have hr8 : rn ≤ 8 := by rw [hrn, hRR]; exact pnV_len _ _ _ _ _
  have HSP := hide (fun (g : Nat) (m : List Md) (W : World) (r : RowM W g n ms m) (hl : m.length = n) (b0 : Option Addr) (d0 : Nat) (ys : List PB) (b2 : Option Addr) (d2 : Nat) (b5 : Option Addr) (d5 : Nat) (us : List TB) (b : Nat) (y : LayO W b L b0 d0 ys b2 d2 b5 d5 us) => show Calls Tryz.prog 29 #[.slice (some ⟨g, 0, none⟩) n n, .agg #[.slice b0 ys.length d0, .int .i64 L.stack, .slice b2 L.slots.length d2, .int .i64 L.flash, .int .i64 L.ram, .slice b5 us.length d5], .agg #[.int .i64 tm, .int .i64 tb, .int .i64 tt], .int .i64 sl] W fun e w' => Below W.heap.size W w' ∧ ∃ pa pq, e = .returned (.tuple #[.slice pa rn pq, .bool ok]) ∧ ORg w' W.heap.size (.slice pa rn pq) R from by
    refine (sPlan_any (some ⟨g, 0, none⟩) n n m L b0 d0 ys b2 d2 b5 d5 us tm tb tt sl W (rowm_msd r hl h HZ.out) (y.lyt HR.out HV.out)).mono ?_
    rintro e w' ⟨A, k, c, he, ho, hb⟩
    rw [rowm_pms r hl h.1, ← hps, ← hok] at he
    rw [rowm_pms r hl h.1, ← hps, ← hRR] at ho
    have e1 : k = rn := by rw [hrn]; exact (or_rs ho).1.symm
    rw [e1] at he ho
    exact ⟨hb, A, c, he, ho⟩)
  have HIM := hide (fun (g : Nat) (m : List Md) (W : World) (r : RowM W g n ms m) (hl : m.length = n) (b0 : Option Addr) (d0 : Nat) (ys : List PB) (b2 : Option Addr) (d2 : Nat) (b5 : Option Addr) (d5 : Nat) (us : List TB) (b : Nat) (y : LayO W b L b0 d0 ys b2 d2 b5 d5 us) => show Calls Tryz.prog 31 #[.slice (some ⟨g, 0, none⟩) n n, .agg #[.slice b0 ys.length d0, .int .i64 L.stack, .slice b2 L.slots.length d2, .int .i64 L.flash, .int .i64 L.ram, .slice b5 us.length d5], .agg #[.int .i64 tm, .int .i64 tb, .int .i64 tt], .int .i64 sl] W fun e w' => Below W.heap.size W w' ∧ ∃ pa pq, e = .returned (.tuple #[.slice pa rn pq, .bool ok]) ∧ ORg w' W.heap.size (.slice pa rn pq) R from by
    refine (iPlan_any (some ⟨g, 0, none⟩) n n m L b0 d0 ys b2 d2 b5 d5 us tm tb tt sl W (rowm_msd r hl h HZ.out) (y.lyt HR.out HV.out)).mono ?_
    rintro e w' ⟨A, k, c, he, ho, hb⟩
    rw [rowm_pms r hl h.1, ← hps, ← hok] at he
    rw [rowm_pms r hl h.1, ← hps, ← hRR] at ho
    have e1 : k = rn := by rw [hrn]; exact (or_rs ho).1.symm
    rw [e1] at he ho
    exact ⟨hb, A, c, he, ho⟩)
  clear hps hok hRR hrn
  have hokk : (ok != ok) = false := by cases ok <;> rfl
  have HH := hide h
  have HHL := hide hL
  go_enter Tryz.func6, Tryz.ntmps6
  go_wp2_with (rw [← HU.out])
  refine (HS.out _ (h.below HB0)).mono ?_
  rintro e w1 ⟨rfl, hb1⟩
  have hB1 := HB0.trans (hb1.mono HB0.size)
  have k1 := k0.below hb1
  have kt1 := kt0.below hb1
  clear hb1 HB0 k0 kt0 HS h HU
  obtain ⟨x0, x1, x2, x3, x4, x5⟩ := k1.ly6
  go_wp2_with fail
  refine (HSL.out _ hB1).mono ?_
  rintro e v1 ⟨rfl, hb1⟩
  have hB2 := hB1.trans (hb1.mono hB1.size)
  have k2 := k1.below hb1
  have kt2 := kt1.below hb1
  clear hb1 hB1 k1 kt1 HSL x0 x1 x2 x3 x4 x5
  obtain ⟨x0, x1, x2, x3, x4, x5⟩ := k2.ly6
  obtain ⟨x6, x7, x8⟩ := kt2.tg3
  have HBK := hide (And.intro hB2 (And.intro k2 kt2))
  clear hB2 k2 kt2 hL
  have HTZ := hide (fun (W0 X : World) (h0 : Below w.heap.size w W0) (hz : Zb #[] 158 W0 X none) => (HT.out X (h0.trans (hz.1.mono h0.size))).mono (fun e w' he => show e = .returned (.slice (some ⟨X.heap.size, 0, none⟩) n n) ∧ ∃ m, Z2 #[] 158 n ms W0 w' none X.heap.size m from ⟨he.1, by obtain ⟨_, ⟨m, hl, hr⟩, hb⟩ := he; exact ⟨m, hz.below hb, hr, hl⟩⟩))
  have HYZ := hide (fun (W0 X : World) (g : Nat) (m : List Md) (h0 : Below w.heap.size w W0) (hz : Z2 #[] 158 n ms W0 X none g m) => (HTL.out X (h0.trans (hz.z.1.mono h0.size))).mono (fun e w' he => show ∃ b0 d0 ys b2 d2 b5 d5 us, e = .returned (.agg #[.slice b0 ys.length d0, .int .i64 L.stack, .slice b2 L.slots.length d2, .int .i64 L.flash, .int .i64 L.ram, .slice b5 us.length d5]) ∧ Z4 #[] 158 n ms L W0 w' none g m b0 d0 ys b2 d2 b5 d5 us from by
    obtain ⟨hb, b0, d0, ys, b2, d2, b5, d5, us, e1, y⟩ := he
    exact ⟨b0, d0, ys, b2, d2, b5, d5, us, e1, hz.below hb, y.mono hz.z.1.size⟩))
  have HTT := hide (fun (W0 X : World) (g : Nat) (m : List Md) (b0 : Option Addr) (d0 : Nat) (ys : List PB) (b2 : Option Addr) (d2 : Nat) (b5 : Option Addr) (d5 : Nat) (us : List TB) (hz : Z4 #[] 158 n ms L W0 X none g m b0 d0 ys b2 d2 b5 d5 us) => (toTarget_any tm tb tt X).mono (fun e w' he => show e = .returned (.agg #[.int .i64 tm, .int .i64 tb, .int .i64 tt]) ∧ Z4 #[] 158 n ms L W0 w' none g m b0 d0 ys b2 d2 b5 d5 us from ⟨he.1, hz.below he.2⟩))
  have HSZ := hide (fun (W0 X : World) (g : Nat) (m : List Md) (b0 : Option Addr) (d0 : Nat) (ys : List PB) (b2 : Option Addr) (d2 : Nat) (b5 : Option Addr) (d5 : Nat) (us : List TB) (hz : Z4 #[] 158 n ms L W0 X none g m b0 d0 ys b2 d2 b5 d5 us) => (HSP.out g m X hz.z.r hz.z.l b0 d0 ys b2 d2 b5 d5 us _ hz.y).mono (fun e w' he => show ∃ pa pq, e = .returned (.tuple #[.slice pa rn pq, .bool ok]) ∧ Below W0.heap.size W0 w' ∧ ORg w' W0.heap.size (.slice pa rn pq) R from by
    obtain ⟨hb, pa, pq, e1, O⟩ := he
    exact ⟨pa, pq, e1, hz.z.z.1.trans (hb.mono hz.z.z.1.size), org_mono O hz.z.z.1.size⟩))
  have HIZ := hide (fun (W0 X : World) (g : Nat) (m : List Md) (b0 : Option Addr) (d0 : Nat) (ys : List PB) (b2 : Option Addr) (d2 : Nat) (b5 : Option Addr) (d5 : Nat) (us : List TB) (hz : Z4 #[] 158 n ms L W0 X none g m b0 d0 ys b2 d2 b5 d5 us) => (HIM.out g m X hz.z.r hz.z.l b0 d0 ys b2 d2 b5 d5 us _ hz.y).mono (fun e w' he => show ∃ pa pq, e = .returned (.tuple #[.slice pa rn pq, .bool ok]) ∧ Below W0.heap.size W0 w' ∧ ORg w' W0.heap.size (.slice pa rn pq) R from by
    obtain ⟨hb, pa, pq, e1, O⟩ := he
    exact ⟨pa, pq, e1, hz.z.z.1.trans (hb.mono hz.z.z.1.size), org_mono O hz.z.z.1.size⟩))
  have hw1 : w.heap.size + 1 < v1.heap.size := HBK.out.2.2.lt
  have HCL := hide (fun (W : World) (hb : Below v1.heap.size v1 W) => And.intro (HBK.out.2.1.below hb).ly6 (HBK.out.2.2.below hb).tg3)
  go_wp2_with fail
  go_region_held3 (fun w' => w'.cell? ⟨w.heap.size, 0, none⟩ = some (.slice a0 xs.length c0) ∧ w'.cell? ⟨w.heap.size, 1, none⟩ = some (.int .i64 L.stack) ∧ w'.cell? ⟨w.heap.size, 2, none⟩ = some (.slice a2 L.slots.length c2) ∧ w'.cell? ⟨w.heap.size, 3, none⟩ = some (.int .i64 L.flash) ∧ w'.cell? ⟨w.heap.size, 4, none⟩ = some (.int .i64 L.ram) ∧ w'.cell? ⟨w.heap.size, 5, none⟩ = some (.slice a5 ts.length c5) ∧ w'.cell? ⟨w.heap.size + 1, 0, none⟩ = some (.int .i64 tm) ∧ w'.cell? ⟨w.heap.size + 1, 1, none⟩ = some (.int .i64 tb) ∧ w'.cell? ⟨w.heap.size + 1, 2, none⟩ = some (.int .i64 tt)) (go_keep)
    (first
      | (go_at_call 12; first
          | with_reducible refine (HTZ.out v1 _ HBK.out.1 (zb_new #[] 158 v1)).mono ?_
          | with_reducible refine (HTZ.out v1 _ HBK.out.1 (zb_new #[] 158 v1).drew).mono ?_
         rintro e xw2 ⟨rfl, xwm2, hY2⟩
         try simp only [World.size_alloc, drew_sz2] at hY2
         have xwY2 := hide hY2
         clear hY2
         obtain ⟨⟨xwd0, xwd1, xwd2, xwd3, xwd4, xwd5⟩, xwd6, xwd7, xwd8⟩ := HCL.out xw2 xwY2.out.z.1)
      | (go_at_call 13; first
          | with_reducible refine (HYZ.out v1 _ _ _ HBK.out.1 xwY2.out).mono ?_
          | with_reducible refine (HYZ.out v1 _ _ _ HBK.out.1 xwY2.out.drew).mono ?_
         rintro e xw3 ⟨b0, d0, ys, b2, d2, b5, d5, us, rfl, hY3⟩
         have xwY3 := hide hY3
         clear hY3
         obtain ⟨⟨xwe0, xwe1, xwe2, xwe3, xwe4, xwe5⟩, xwe6, xwe7, xwe8⟩ := HCL.out xw3 xwY3.out.z.z.1)
      | (go_at_call 30; first
          | with_reducible refine (HTT.out v1 _ _ _ _ _ _ _ _ _ _ _ xwY3.out).mono ?_
          | with_reducible refine (HTT.out v1 _ _ _ _ _ _ _ _ _ _ _ xwY3.out.drew).mono ?_
         rintro e xw4 ⟨rfl, hY4⟩
         have xwY4 := hide hY4
         clear hY4
         obtain ⟨⟨xwf0, xwf1, xwf2, xwf3, xwf4, xwf5⟩, xwf6, xwf7, xwf8⟩ := HCL.out xw4 xwY4.out.z.z.1)
      | (go_at_call 29; first
          | with_reducible refine (HSZ.out v1 _ _ _ _ _ _ _ _ _ _ _ xwY4.out).mono ?_
          | with_reducible refine (HSZ.out v1 _ _ _ _ _ _ _ _ _ _ _ xwY4.out.drew).mono ?_
         rintro e xw5 ⟨pa, pq, rfl, hY5⟩
         have xwY5 := hide hY5
         clear hY5
         obtain ⟨⟨xwg0, xwg1, xwg2, xwg3, xwg4, xwg5⟩, xwg6, xwg7, xwg8⟩ := HCL.out xw5 xwY5.out.1))
  generalize xw5 = W5 at *
  have HKp := hide (show Kn #[.slice a0 xs.length c0, .int .i64 L.stack, .slice a2 L.slots.length c2, .int .i64 L.flash, .int .i64 L.ram, .slice a5 ts.length c5] 27 #[.int .i64 tm, .int .i64 tb, .int .i64 tt] 67 v1.heap.size R w W5 pa rn pq W5 from ⟨HBK.out.1.trans (xwY5.out.1.mono HBK.out.1.size), HBK.out.2.1.below xwY5.out.1, HBK.out.2.2.below xwY5.out.1, xwY5.out.2, xwY5.out.2, Nat.lt_of_lt_of_le hw1 xwY5.out.1.size, Nat.le_refl _⟩)
  generalize v1.heap.size = base at HKp
  clear hw1 HBK HCL HSZ HSP x0 x1 x2 x3 x4 x5 x6 x7 x8 xwY2 xwY3 xwY4 xwY5 xwd0 xwd1 xwd2 xwd3 xwd4 xwd5 xwd6 xwd7 xwd8 xwe0 xwe1 xwe2 xwe3 xwe4 xwe5 xwe6 xwe7 xwe8 xwf0 xwf1 xwf2 xwf3 xwf4 xwf5 xwf6 xwf7 xwf8 xwg0 xwg1 xwg2 xwg3 xwg4 xwg5 xwg6 xwg7 xwg8
  go_wp2_with fail
  refine (HT.out W5 HKp.out.be).mono ?_
  rintro e w6 ⟨rfl, ⟨mx, lx, rx⟩, hb6⟩
  have K6 := HKp.out.below hb6
  have hs6 : W5.heap.size < w6.heap.size := by obtain ⟨⟨cur, hc, _⟩, _⟩ := rx; exact hc.lt
  have HRX := hide rx
  clear hb6 rx
  obtain ⟨x0, x1, x2, x3, x4, x5⟩ := K6.kc.ly6
  go_wp2_with fail
  refine (HTL.out w6 K6.be).mono ?_
  rintro e w7 ⟨hb7, e0, f0, zs, e2, f2, e5, f5, vs, rfl, Y7⟩
  have hA7 : Below w7.heap.size w7 (w7.alloc (.cells #[.slice e0 zs.length f0, .int .i64 L.stack, .slice e2 L.slots.length f2, .int .i64 L.flash, .int .i64 L.ram, .slice e5 vs.length f5] 36)) := (Below.refl _ _).alloc (Nat.le_refl _) _
  have k7 := Blk.new w7 #[.slice e0 zs.length f0, .int .i64 L.stack, .slice e2 L.slots.length f2, .int .i64 L.flash, .int .i64 L.ram, .slice e5 vs.length f5] 36
  have K7 := (K6.below hb7).below hA7
  have B7 := hb7.trans (hA7.mono hb7.size)
  have hs7 := hb7.size
  have HY7 := hide Y7
  have Y8 := Y7.below' hA7
  clear K6 hb7 hA7 Y7 x0 x1 x2 x3 x4 x5
  have hsA : (w7.alloc (.cells #[.slice e0 zs.length f0, .int .i64 L.stack, .slice e2 L.slots.length f2, .int .i64 L.flash, .int .i64 L.ram, .slice e5 vs.length f5] 36)).heap.size = w7.heap.size + 1 := by simp
  go_wp2_with fail
  generalize w7.alloc (.cells #[.slice e0 zs.length f0, .int .i64 L.stack, .slice e2 L.slots.length f2, .int .i64 L.flash, .int .i64 L.ram, .slice e5 vs.length f5] 36) = W7 at *
  generalize hg7 : w7.heap.size = g7 at *
  have HG7 := hide hg7
  clear hg7
  have HA7 := hide (And.intro K7 (And.intro B7 (And.intro k7 Y8)))
  clear K7 B7 k7 Y8
  have HC7 := hide (fun (X : World) (hb : Below W7.heap.size W7 X) => And.intro (HA7.out.2.2.1.below hb).ly6 (HA7.out.1.kt.below hb).tg3)
  have HT7 := hide (fun (X : World) (hb : Below W7.heap.size W7 X) => (toTarget_any tm tb tt X).mono (fun e w' he => show e = .returned (.agg #[.int .i64 tm, .int .i64 tb, .int .i64 tt]) ∧ Below W7.heap.size W7 w' from ⟨he.1, hb.trans (he.2.mono hb.size)⟩))
  have HI7 := hide (fun (X : World) (hb : Below W7.heap.size W7 X) => (HIM.out _ mx X ((HRX.out.below HA7.out.2.1).below hb) lx e0 f0 zs e2 f2 e5 f5 vs _ (HA7.out.2.2.2.below' hb)).mono (fun e w' he => show ∃ ra rq, e = .returned (.tuple #[.slice ra rn rq, .bool ok]) ∧ Below W7.heap.size W7 w' ∧ ORg w' W7.heap.size (.slice ra rn rq) R from by
    obtain ⟨hb2, ra, rq, e1, O⟩ := he
    exact ⟨ra, rq, e1, hb.trans (hb2.mono hb.size), org_mono O hb.size⟩))
  obtain ⟨⟨x0, x1, x2, x3, x4, x5⟩, x6, x7, x8⟩ := HC7.out _ (Below.refl _ _)
  go_region_held3 (fun w' => w'.cell? ⟨g7, 0, none⟩ = some (.slice e0 zs.length f0) ∧ w'.cell? ⟨g7, 1, none⟩ = some (.int .i64 L.stack) ∧ w'.cell? ⟨g7, 2, none⟩ = some (.slice e2 L.slots.length f2) ∧ w'.cell? ⟨g7, 3, none⟩ = some (.int .i64 L.flash) ∧ w'.cell? ⟨g7, 4, none⟩ = some (.int .i64 L.ram) ∧ w'.cell? ⟨g7, 5, none⟩ = some (.slice e5 vs.length f5) ∧ w'.cell? ⟨w.heap.size + 1, 0, none⟩ = some (.int .i64 tm) ∧ w'.cell? ⟨w.heap.size + 1, 1, none⟩ = some (.int .i64 tb) ∧ w'.cell? ⟨w.heap.size + 1, 2, none⟩ = some (.int .i64 tt)) (go_keep)
    (first
      | (go_at_call 30; first
          | with_reducible refine (HT7.out _ (Below.refl _ _)).mono ?_
          | with_reducible refine (HT7.out _ (Below.refl _ _).drew).mono ?_
         rintro e w71 ⟨rfl, hb71⟩
         have HB71 := hide hb71
         clear hb71
         obtain ⟨⟨u0, u1, u2, u3, u4, u5⟩, u6, u7, u8⟩ := HC7.out _ HB71.out)
      | (go_at_call 31; first
          | with_reducible refine (HI7.out _ HB71.out).mono ?_
          | with_reducible refine (HI7.out _ HB71.out.drew).mono ?_
         rintro e w8 ⟨ra, rq, rfl, hY8⟩
         have HQ8 := hide hY8
         clear hY8
         obtain ⟨⟨y0, y1, y2, y3, y4, y5⟩, y6, y7, y8⟩ := HC7.out _ HQ8.out.1))
  obtain ⟨K7, B7, k7, Y8⟩ := HA7.out
  have hb8 := HQ8.out.1
  have O9 := HQ8.out.2
  have HO8 := hide O9
  have K8 := K7.below hb8
  have B8 := B7.trans (hb8.mono B7.size)
  have kx8 := k7.below hb8
  have Y9 := Y8.below' hb8
  have hs8 := hb8.size
  clear K7 B7 k7 Y8 hb8 HA7 HC7 HT7 HI7 HQ8 HB71 x0 x1 x2 x3 x4 x5 x6 x7 x8 u0 u1 u2 u3 u4 u5 u6 u7 u8 y0 y1 y2 y3 y4 y5 y6 y7 y8
  go_wp2_with fail
  refine (eqRegionS_same ra pa rn rq pq R _ (or_rs O9) (or_rs K8.mw)).mono ?_
  rintro e w9 ⟨rfl, hb9⟩
  have K9 := K8.below hb9
  have B9 := B8.trans (hb9.mono B8.size)
  have kx9 := kx8.below hb9
  have Y9' := Y9.below' hb9
  have O9' := O9.bl hb9
  clear K8 B8 kx8 Y9 O9 hb9
  go_wp2_with fail
  refine (HT.out w9 K9.be).mono ?_
  rintro e w10 ⟨rfl, ⟨my, ly, ry⟩, hb10⟩
  have K10 := K9.below hb10
  have B10 := B9.trans (hb10.mono B9.size)
  have kx10 := kx9.below hb10
  have Y10 := Y9'.below' hb10
  have O10 := O9'.bl hb10
  clear K9 B9 kx9 Y9' O9' hb10
  go_wp2_with fail
  refine (eqModuleS_same _ _ n n n mx my _ ((HRX.out.below B10).ms lx HH.out) (ry.ms ly HH.out) (RowM.same HH.out (HRX.out.below B10) lx ry ly)).mono ?_
  rintro e w11 ⟨rfl, hb11⟩
  have K11 := K10.below hb11
  have B11 := B10.trans (hb11.mono B10.size)
  have kx11 := kx10.below hb11
  have Y11 := Y10.below' hb11
  have O11 := O10.bl hb11
  clear K10 B10 kx10 Y10 O10 hb11 ry
  have HA11 := hide (And.intro K11 (And.intro B11 (And.intro kx11 (And.intro Y11 O11))))
  have HCX := hide (fun (W : World) (hb : Below w11.heap.size w11 W) => And.intro (HA11.out.1.kc.below hb).ly6 (HA11.out.2.2.1.below hb).ly6)
  obtain ⟨⟨x0, x1, x2, x3, x4, x5⟩, ⟨y0, y1, y2, y3, y4, y5⟩⟩ := HCX.out _ (Below.refl _ _)
  have HTX := hide (fun (X : World) (hb : Below w11.heap.size w11 X) => (HTL.out X (HA11.out.1.be.trans (hb.mono HA11.out.1.be.size))).mono (fun e w' he => show ∃ b0 d0 ys b2 d2 b5 d5 us, e = .returned (.agg #[.slice b0 ys.length d0, .int .i64 L.stack, .slice b2 L.slots.length d2, .int .i64 L.flash, .int .i64 L.ram, .slice b5 us.length d5]) ∧ Below w11.heap.size w11 w' ∧ LayO w' X.heap.size L b0 d0 ys b2 d2 b5 d5 us from by
    obtain ⟨hb2, b0, d0, ys, b2, d2, b5, d5, us, e1, y⟩ := he
    exact ⟨b0, d0, ys, b2, d2, b5, d5, us, e1, hb.trans (hb2.mono hb.size), y⟩))
  clear K11 B11 kx11 Y11 O11
  go_wp2_with fail
  go_region_held3 (fun w' => w'.cell? ⟨w.heap.size, 0, none⟩ = some (.slice a0 xs.length c0) ∧ w'.cell? ⟨w.heap.size, 1, none⟩ = some (.int .i64 L.stack) ∧ w'.cell? ⟨w.heap.size, 2, none⟩ = some (.slice a2 L.slots.length c2) ∧ w'.cell? ⟨w.heap.size, 3, none⟩ = some (.int .i64 L.flash) ∧ w'.cell? ⟨w.heap.size, 4, none⟩ = some (.int .i64 L.ram) ∧ w'.cell? ⟨w.heap.size, 5, none⟩ = some (.slice a5 ts.length c5) ∧ w'.cell? ⟨g7, 0, none⟩ = some (.slice e0 zs.length f0) ∧ w'.cell? ⟨g7, 1, none⟩ = some (.int .i64 L.stack) ∧ w'.cell? ⟨g7, 2, none⟩ = some (.slice e2 L.slots.length f2) ∧ w'.cell? ⟨g7, 3, none⟩ = some (.int .i64 L.flash) ∧ w'.cell? ⟨g7, 4, none⟩ = some (.int .i64 L.ram) ∧ w'.cell? ⟨g7, 5, none⟩ = some (.slice e5 vs.length f5)) (go_keep)
    (first
      | (go_at_call 13; first
          | with_reducible refine (HTX.out _ (Below.refl _ _)).mono ?_
          | with_reducible refine (HTX.out _ (Below.refl _ _).drew).mono ?_
         rintro e j2 ⟨b0, d0, ys, b2, d2, b5, d5, us, rfl, hj2, yj2⟩
         have HJ2 := hide (And.intro hj2 yj2)
         clear hj2 yj2
         obtain ⟨⟨u0', u1', u2', u3', u4', u5'⟩, ⟨v0', v1', v2', v3', v4', v5'⟩⟩ := HCX.out _ HJ2.out.1)
      | (go_at_call 16; refine (eqLayout_same HR.out (HA11.out.2.2.2.1.below' HJ2.out.1) HJ2.out.2).mono ?_
         rintro e j3 ⟨rfl, hj3⟩
         have HJ3 := hide (HJ2.out.1.trans (hj3.mono HJ2.out.1.size))
         clear hj3
         obtain ⟨⟨u0'', u1'', u2'', u3'', u4'', u5''⟩, ⟨v0'', v1'', v2'', v3'', v4'', v5''⟩⟩ := HCX.out _ HJ3.out))
  clear x0 x1 x2 x3 x4 x5 y0 y1 y2 y3 y4 y5 u0' u1' u2' u3' u4' u5' v0' v1' v2' v3' v4' v5' u0'' u1'' u2'' u3'' u4'' u5'' v0'' v1'' v2'' v3'' v4'' v5''
  have hj3 := HJ3.out
  obtain ⟨K11, B11, kx11, Y11, O11⟩ := HA11.out
  have K12 := K11.below hj3
  have B12 := B11.trans (hj3.mono B11.size)
  have kx12 := kx11.below hj3
  have Y12 := Y11.below' hj3
  have O12 := O11.bl hj3
  clear K11 B11 kx11 Y11 O11 hj3 HJ3 HJ2 HA11 HCX HTX
  obtain ⟨z1, z2, z3⟩ := rowm_cnt HRX.out lx HH.out HZS.out
  have z4 := rowm_cnt3 HRX.out lx HH.out
  rw [← HQ1.out] at z4
  have HMK := hide (markModuleS_sl (Sm w6 W5.heap.size) W5.heap.size n n 1 mx (fun i => bnF (mx.getD i zMd)) j3 ((rowm_mrs HRX.out lx HH.out).kept (Mkd.below B12)) (by omega) z2 z3 hn)
  obtain ⟨KM, hKM⟩ : ∃ KM, KM = 1 + upS (cntM mx (fun i => bnF (mx.getD i zMd))) n := ⟨_, rfl⟩
  rw [← hKM] at HMK
  have hKB : KM ≤ 1 + 3 * Q1 := by omega
  clear hKM z1 z2 z3 z4
  have HKB := hide (And.intro K12 (And.intro kx12 (And.intro Y12 O12)))
  clear K12 B12 kx12 Y12 O12
  go_wp2_with fail
  refine HMK.out.mono ?_
  rintro e w12 ⟨rfl, M12⟩
  have hg7 := HG7.out
  obtain ⟨K12, kx12, Y12, O12⟩ := HKB.out
  have K13 := K12.turn M12.turn (fun j hj => by rcases hj with hj | hj; exact Nat.le_of_lt hj.1; omega)
  have kx13 := turn_blk M12.turn kx12 (fun hs => by rcases hs with hs | hs; have := hs.2.1; omega; omega)
  have Y13 := Y12.kept M12.turn (fun j hj _ hs => by rcases hs with hs | hs; have := hs.2.1; omega; omega)
  have O13 := turn_or' M12.turn O12 (fun j hj hs => by have := or_rowle HO8.out j hj; rcases hs with hs | hs; have := hs.2.1; omega; omega)
  clear K12 kx12 Y12 O12 M12 HMK HKB
  have hzs : zs.map (fun x => x.1) = xs.map (fun x => x.1) := Y13.ps.trans HHL.out.ps.symm
  have hvs : vs.map (fun x => x.1) = ts.map (fun x => x.1) := Y13.tt.trans HHL.out.tt.symm
  have hsz : lySz L zs vs = lySz L xs ts := lySz_eq hzs hvs
  have HBN := hide (show zs.length ≤ 1048576 ∧ (∀ i, i < zs.length → (plF zs i).2.1 ≤ 1048576) ∧ L.slots.length ≤ 1048576 ∧ vs.length ≤ 1048576 ∧ (∀ i, i < vs.length → (tbF vs i).1.length ≤ 1048576) ∧ KM + sumP (plF zs) zs.length + L.slots.length + sumT (tbF vs) vs.length ≤ 4194304 from by
    have h1 := HQS.out
    have h2 := sumP_le3 zs zs.length
    have h3 := sumT_le3 vs vs.length
    rw [← hsz] at h1
    unfold lySz plSz tsSz at h1
    refine ⟨by omega, fun i hi => ?_, by omega, by omega, fun i hi => ?_, by omega⟩
    · have h4 := upS_le (fun j => (zs.getD j zPB).1.banks.length) zs.length i hi
      show (zs.getD i zPB).1.banks.length ≤ _
      omega
    · have h4 := upS_le (fun j => (vs.getD j zTB).1.length) vs.length i hi
      show (vs.getD i zTB).1.length ≤ _
      omega)
  clear hzs hvs hsz
  have HML := hide (markLayout_big e0 zs.length f0 L.stack e2 L.slots.length f2 L.flash L.ram e5 vs.length f5 KM w6.heap.size (plF zs) (plV zs) (plX zs) L.slots (tbF vs) (tbX vs) w12 (Y13.y3 HR.out) HBN.out.1 HBN.out.2.1 HBN.out.2.2.1 HBN.out.2.2.2.1 HBN.out.2.2.2.2.1 HBN.out.2.2.2.2.2)
  have HSY := hide (fun j (hj : Sy e0 zs.length (plF zs) (.slice e2 L.slots.length f2) vs.length (tbF vs) j) => (HY7.out.y3 HR.out).lt hj)
  obtain ⟨QM, hQM⟩ : ∃ QM, QM = KM + sumP (plF zs) zs.length + L.slots.length + sumT (tbF vs) vs.length := ⟨_, rfl⟩
  rw [← hQM] at HML
  have hQ0 : ¬ ((QM : Int) < 0) := by omega
  clear hQM
  obtain ⟨x0, x1, x2, x3, x4, x5⟩ := kx13.ly6
  have HKB := hide (And.intro K13 O13)
  clear K13 kx13 O13 Y13
  go_wp2_with fail
  refine HML.out.mono ?_
  rintro e w13 ⟨rfl, _, T13⟩
  obtain ⟨K13, O13⟩ := HKB.out
  have K14 := K13.turn T13 (fun j hj => by have := HSY.out j hj; omega)
  have O14 := turn_or' T13 O13 (fun j hj hs => by have := HSY.out _ hs; have := or_rowle HO8.out j hj; omega)
  clear K13 O13 T13 HML HKB HSY x0 x1 x2 x3 x4 x5
  go_wp2_with fail
  refine (eqRegionS_same ra pa rn rq pq R _ (or_rs O14) (or_rs K14.mw)).mono ?_
  rintro e w14 ⟨rfl, hb14⟩
  have K15 := K14.below hb14
  have O15 := O14.bl hb14
  clear K14 O14 hb14
  have HKB := hide K15
  have HMM := hide (markRegionS_any ra rn rq W7.heap.size R 1 w14 O15 (by omega) (by omega))
  clear K15 O15
  have HMH := hide (fun (W : World) (h1 : RS W ra rn rq (marksR 1 rn)) => heldRegionS_any ra rn rq 1 W h1 (by omega) (by omega))
  generalize 1 + 6 * rn = QQ at HMM HMH
  have hQQ0 : ¬ ((QQ : Int) < 0) := by omega
  have hQQn : ((QQ : Int) != (QQ : Int)) = false := by simp
  go_wp2_with fail
  refine HMM.out.mono ?_
  rintro e w15 ⟨rfl, O16, T15⟩
  have K16 := HKB.out.turn T15 (fun j hj => by have := hj.1; have := HKp.out.n5; omega)
  have HO16 := hide O16
  have HKB2 := hide K16
  clear O16 K16 T15 HMM HKB
  go_wp2_with fail
  refine (HMH.out w15 HO16.out).mono ?_
  rintro e w16 ⟨rfl, hw16⟩
  subst hw16
  have HKp17 := hide HKB2.out
  clear HKB2 HO16 HMH
  have hw17 : w.heap.size + 1 < w15.heap.size := HKp17.out.kt.lt
  have HCL2 := hide (fun (W : World) (hb : Below w15.heap.size w15 W) => And.intro (HKp17.out.kc.below hb).ly6 (HKp17.out.kt.below hb).tg3)
  obtain ⟨⟨x0, x1, x2, x3, x4, x5⟩, x6, x7, x8⟩ := HCL2.out _ (Below.refl _ _)
  clear HRX HG7 hg7 HKp hs6 hs7 hs8 HY7 HO8 HBN hKB hsA
  go_wp2_with fail
  go_region_held3 (fun w' => w'.cell? ⟨w.heap.size, 0, none⟩ = some (.slice a0 xs.length c0) ∧ w'.cell? ⟨w.heap.size, 1, none⟩ = some (.int .i64 L.stack) ∧ w'.cell? ⟨w.heap.size, 2, none⟩ = some (.slice a2 L.slots.length c2) ∧ w'.cell? ⟨w.heap.size, 3, none⟩ = some (.int .i64 L.flash) ∧ w'.cell? ⟨w.heap.size, 4, none⟩ = some (.int .i64 L.ram) ∧ w'.cell? ⟨w.heap.size, 5, none⟩ = some (.slice a5 ts.length c5) ∧ w'.cell? ⟨w.heap.size + 1, 0, none⟩ = some (.int .i64 tm) ∧ w'.cell? ⟨w.heap.size + 1, 1, none⟩ = some (.int .i64 tb) ∧ w'.cell? ⟨w.heap.size + 1, 2, none⟩ = some (.int .i64 tt)) (go_keep)
    (first
      | (go_at_call 12; first
          | with_reducible refine (HTZ.out w15 _ HKp17.out.be (zb_new #[] 158 w15)).mono ?_
          | with_reducible refine (HTZ.out w15 _ HKp17.out.be (zb_new #[] 158 w15).drew).mono ?_
         rintro e qq2 ⟨rfl, qqm2, hY2⟩
         try simp only [World.size_alloc, drew_sz2] at hY2
         have qqY2 := hide hY2
         clear hY2
         obtain ⟨⟨qqd0, qqd1, qqd2, qqd3, qqd4, qqd5⟩, qqd6, qqd7, qqd8⟩ := HCL2.out qq2 qqY2.out.z.1)
      | (go_at_call 13; first
          | with_reducible refine (HYZ.out w15 _ _ _ HKp17.out.be qqY2.out).mono ?_
          | with_reducible refine (HYZ.out w15 _ _ _ HKp17.out.be qqY2.out.drew).mono ?_
         rintro e qq3 ⟨b0, d0, ys, b2, d2, b5, d5, us, rfl, hY3⟩
         have qqY3 := hide hY3
         clear hY3
         obtain ⟨⟨qqe0, qqe1, qqe2, qqe3, qqe4, qqe5⟩, qqe6, qqe7, qqe8⟩ := HCL2.out qq3 qqY3.out.z.z.1)
      | (go_at_call 30; first
          | with_reducible refine (HTT.out w15 _ _ _ _ _ _ _ _ _ _ _ qqY3.out).mono ?_
          | with_reducible refine (HTT.out w15 _ _ _ _ _ _ _ _ _ _ _ qqY3.out.drew).mono ?_
         rintro e qq4 ⟨rfl, hY4⟩
         have qqY4 := hide hY4
         clear hY4
         obtain ⟨⟨qqf0, qqf1, qqf2, qqf3, qqf4, qqf5⟩, qqf6, qqf7, qqf8⟩ := HCL2.out qq4 qqY4.out.z.z.1)
      | (go_at_call 31; first
          | with_reducible refine (HIZ.out w15 _ _ _ _ _ _ _ _ _ _ _ qqY4.out).mono ?_
          | with_reducible refine (HIZ.out w15 _ _ _ _ _ _ _ _ _ _ _ qqY4.out.drew).mono ?_
         rintro e qq5 ⟨ha, hq, rfl, hY5⟩
         have qqY5 := hide hY5
         clear hY5
         obtain ⟨⟨qqg0, qqg1, qqg2, qqg3, qqg4, qqg5⟩, qqg6, qqg7, qqg8⟩ := HCL2.out qq5 qqY5.out.1))
  have K18 := HKp17.out.below qqY5.out.1
  have O18 := qqY5.out.2
  clear hw17 HCL2 HKp17 x0 x1 x2 x3 x4 x5 x6 x7 x8 qqY2 qqY3 qqY4 qqY5 qqd0 qqd1 qqd2 qqd3 qqd4 qqd5 qqd6 qqd7 qqd8 qqe0 qqe1 qqe2 qqe3 qqe4 qqe5 qqe6 qqe7 qqe8 qqf0 qqf1 qqf2 qqf3 qqf4 qqf5 qqf6 qqf7 qqf8 qqg0 qqg1 qqg2 qqg3 qqg4 qqg5 qqg6 qqg7 qqg8
  go_wp2_with fail
  refine (eqRegionS_same ha pa rn hq pq R _ (or_rs O18) (or_rs K18.mw)).mono ?_
  rintro e w19 ⟨rfl, hb19⟩
  have HB := hide (K18.below hb19).be
  clear K18 O18 hb19
  go_wp2
  go_ret
  exact ⟨rfl, HB.out⟩
end Go.Proofs.YtngdgogjlpjjpaeGreat

namespace Go.Proofs.YtngdgogjlpjjpaeGreat
open Go.ChangeShapes Go.WideShapes Go.ChangeAt Go.RowKit
set_option linter.unusedVariables false

theorem own : ownKnob Tryz.prog.godebug = none := by kernel_rfl
theorem laidOut : laidOutB Tryz.prog = true := by kernel_rfl

theorem wf_u8 {z : Int} (h : (Lit.int .u8 z).wf = true) : 0 ≤ z ∧ z ≤ 255 := by
  simp [Lit.wf, IntKind.min, IntKind.max, IntKind.signed, IntKind.bits] at h
  omega

theorem wf_i64 {z : Int} (h : (Lit.int .i64 z).wf = true) : -9223372036854775808 ≤ z ∧ z ≤ 9223372036854775807 := by
  simp [Lit.wf, IntKind.min, IntKind.max, IntKind.signed, IntKind.bits] at h
  omega

set_option maxRecDepth 100000 in
theorem bs_of_trod {H : Type} {enc : TypeId × Value → H} {w : World} {base : Nat} {held : Bool} {fuel : Nat} {cs : List Value} {x : DataW H × List MemPlace}
    (h : DataW.trod enc Tryz.prog w base (fun _ => true) held fuel 41 cs = some x) : ∃ a n cap zs, cs = [.slice a n cap] ∧ BS w a n cap zs := by
  rcases open_ints Tryz.underlying41 Tryz.underlying5 (by kernel_rfl) h with ⟨hcs, _⟩ | ⟨x, l, c, zs, hcs, _, hl, hm, hz, _, hcell, hwz⟩
  · exact ⟨none, 0, 0, [], hcs, rfl, Nat.zero_le _, by simp, fun h => absurd rfl h, Nat.le_refl _⟩
  · simp at hz
    refine ⟨some x, l, c, zs.take l, hcs, by simp; omega, by omega, fun z hz' => wf_u8 (hwz z (List.mem_of_mem_take hz')), fun hl0 => ?_, hl⟩
    obtain ⟨b, off, spot⟩ := x
    have hspot : spot = none := by simpa [Addr.add] using World.cell?_spot (hcell 0 (by omega))
    subst hspot
    refine ⟨b, off, rfl, fun i hi => ?_⟩
    have := hcell i (by omega)
    have ea : (Addr.add ⟨b, off, none⟩ i) = ⟨b, off + i, none⟩ := by
      simp only [Addr.add]
      split
      · next h => subst h; rfl
      · rfl
    rw [ea] at this
    rw [this]
    simp [List.getD_eq_getElem?_getD, hi]

set_option maxRecDepth 100000 in
theorem open_bytes {H : Type} {enc : TypeId × Value → H} {w : World} {base b0 : Nat} {held : Bool} {r : Reach} {v : Value} {d : DataW H} {p : List MemPlace}
    (hv : Value.okWide Tryz.prog w r b0 41 v) (h : DataW.Trod enc Tryz.prog w base (fun _ => true) held 41 v d p) :
    ∃ a n cap zs, v = .slice a n cap ∧ BS w a n cap zs := by
  obtain ⟨a0, len0, cap0, rfl⟩ := okWide_slice Tryz.underlying41 hv
  obtain ⟨fuel, hf⟩ := h
  obtain ⟨a, n, cap, zs, hcs, hb⟩ := bs_of_trod hf
  simp [Value.cells] at hcs
  obtain ⟨rfl, rfl, rfl⟩ := hcs
  exact ⟨_, _, _, zs, rfl, hb⟩

end Go.Proofs.YtngdgogjlpjjpaeGreat

namespace Go.Proofs.YtngdgogjlpjjpaeGreat
open Go.ChangeShapes Go.WideShapes Go.ChangeAt Go.RowKit
set_option linter.unusedVariables false

theorem addM (b off i : Nat) : (Addr.add ⟨b, off, none⟩ i) = ⟨b, off + i, none⟩ := by
  simp only [Addr.add]
  split
  · next h => subst h; rfl
  · rfl
set_option maxRecDepth 100000 in
theorem ints_of_trod {H : Type} {enc : TypeId × Value → H} {w : World} {base : Nat} {held : Bool} {fuel : Nat} {cs : List Value} {x : DataW H × List MemPlace}
    (h : DataW.trod enc Tryz.prog w base (fun _ => true) held fuel 24 cs = some x) : ∃ a n cap zs, cs = [.slice a n cap] ∧ IS w a n cap zs := by
  rcases open_ints Tryz.underlying24 Tryz.underlying3 (by kernel_rfl) h with ⟨hcs, _⟩ | ⟨x, l, c, zs, hcs, _, hl, hm, hz, _, hcell, hwz⟩
  · exact ⟨none, 0, 0, [], hcs, rfl, Nat.zero_le _, by simp, fun h => absurd rfl h, Nat.le_refl _⟩
  · simp at hz
    refine ⟨some x, l, c, zs.take l, hcs, by simp; omega, by omega, fun z hz' => wf_i64 (hwz z (List.mem_of_mem_take hz')), fun hl0 => ?_, hl⟩
    obtain ⟨b, off, spot⟩ := x
    have hspot : spot = none := by simpa [Addr.add] using World.cell?_spot (hcell 0 (by omega))
    subst hspot
    refine ⟨b, off, rfl, fun i hi => ?_⟩
    have := hcell i (by omega)
    rw [addM] at this
    rw [this]
    simp [List.getD_eq_getElem?_getD, hi]

set_option maxRecDepth 100000 in
theorem bks_of_trod {H : Type} {enc : TypeId × Value → H} {w : World} {base : Nat} {held : Bool} {fuel : Nat} {cs : List Value} {x : DataW H × List MemPlace}
    (h : DataW.trod enc Tryz.prog w base (fun _ => true) held fuel 93 cs = some x) : ∃ a n cap bl, cs = [.slice a n cap] ∧ BKS w a n cap bl := by
  have e1 : Tryz.prog.cellsOf 24 = 1 := by kernel_rfl
  rcases Deep.open_slice Tryz.underlying93 h with ⟨hcs, _⟩ | ⟨a, len, cap, m, n, D, Pl, hcs, hb, hl, hm, hmm, hx, hd⟩
  · exact ⟨none, 0, 0, [], hcs, rfl, Nat.zero_le _, fun h => absurd rfl h, fun i hi => by omega, Nat.le_refl _⟩
  · simp at hmm
    rw [hmm] at hd
    rw [e1] at hd
    obtain ⟨G, hG⟩ := Deep.choose_lt (α := Bk) (p := fun i g => (∃ cs', w.cells? base (a.add (i * 1)) 1 = some cs' ∧ cs' = [Value.slice g.1 g.2.1 g.2.2.1]) ∧ IS w g.1 g.2.1 g.2.2.1 g.2.2.2) (n := len) (fun i hi => by
      obtain ⟨cs', h1, h2⟩ := hd i (by omega)
      obtain ⟨a', n', c', zs', e, hI⟩ := ints_of_trod h2
      exact ⟨(a', n', c', zs'), ⟨cs', h1, e⟩, hI⟩)
    have hgi : ∀ i, i < len → ((List.range len).map G).getD i zB = G i := fun i hi => by simp [List.getD_eq_getElem?_getD, hi]
    refine ⟨some a, len, cap, (List.range len).map G, hcs, by simp, by omega, ?_, fun i hi => by rw [hgi i hi]; exact (hG i hi).2, hl⟩
    intro hn
    obtain ⟨b, off, spot⟩ := a
    have hspot : spot = none := by
      obtain ⟨⟨cs', h1, h2⟩, _⟩ := hG 0 (by omega)
      have := (World.cells?_some h1).2.2 0 (by omega)
      rw [h2] at this
      simpa [Addr.add] using World.cell?_spot this
    subst hspot
    refine ⟨b, off, rfl, fun i hi => ?_⟩
    obtain ⟨⟨cs', h1, h2⟩, _⟩ := hG i hi
    have hc := (World.cells?_some h1).2.2
    rw [h2] at hc
    rw [hgi i hi]
    simp only [addM] at hc
    simpa using hc 0 (by omega)

set_option maxRecDepth 100000 in
theorem ts_of_trod {H : Type} {enc : TypeId × Value → H} {w : World} {base : Nat} {held : Bool} {fuel : Nat} {cs : List Value} {x : DataW H × List MemPlace}
    (h : DataW.trod enc Tryz.prog w base (fun _ => true) held fuel 94 cs = some x) : ∃ a n cap ss, cs = [.slice a n cap] ∧ TS w a n cap ss := by
  have e1 : Tryz.prog.cellsOf 9 = 1 := by kernel_rfl
  have ez : zS.size ≤ maxLen := by decide
  rcases Deep.open_slice Tryz.underlying94 h with ⟨hcs, _⟩ | ⟨a, len, cap, m, n, D, Pl, hcs, hb, hl, hm, hmm, hx, hd⟩
  · exact ⟨none, 0, 0, [], hcs, rfl, Nat.zero_le _, fun i => by simpa using ez, fun h => absurd rfl h, Nat.le_refl _⟩
  · simp at hmm
    rw [hmm] at hd
    rw [e1] at hd
    obtain ⟨G, hG⟩ := Deep.choose_lt (α := ByteArray) (p := fun i g => (∃ cs', w.cells? base (a.add (i * 1)) 1 = some cs' ∧ cs' = [Value.string g]) ∧ g.size ≤ maxLen) (n := len) (fun i hi => by
      obtain ⟨cs', h1, h2⟩ := hd i (by omega)
      obtain ⟨s, e, _, hI⟩ := DataW.trod_string Tryz.underlying9 h2
      exact ⟨s, ⟨cs', h1, e⟩, hI⟩)
    have hgi : ∀ i, i < len → ((List.range len).map G).getD i zS = G i := fun i hi => by simp [List.getD_eq_getElem?_getD, hi]
    refine ⟨some a, len, cap, (List.range len).map G, hcs, by simp, by omega, fun i => ?_, ?_, hl⟩
    · by_cases hi : i < len
      · rw [hgi i hi]; exact (hG i hi).2
      · rw [List.getD_eq_getElem?_getD, List.getElem?_eq_none (by simp; omega)]; exact ez
    intro hn
    obtain ⟨b, off, spot⟩ := a
    have hspot : spot = none := by
      obtain ⟨⟨cs', h1, h2⟩, _⟩ := hG 0 (by omega)
      have := (World.cells?_some h1).2.2 0 (by omega)
      rw [h2] at this
      simpa [Addr.add] using World.cell?_spot this
    subst hspot
    refine ⟨b, off, rfl, fun i hi => ?_⟩
    obtain ⟨⟨cs', h1, h2⟩, _⟩ := hG i hi
    have hc := (World.cells?_some h1).2.2
    rw [h2] at hc
    rw [hgi i hi]
    simp only [addM] at hc
    simpa using hc 0 (by omega)

set_option maxRecDepth 100000 in
theorem export_cells {H : Type} {enc : TypeId × Value → H} {w : World} {base : Nat} {held : Bool} {spare : Nat → Bool} {fuel : Nat} {cs : List Value} {x : DataW H × List MemPlace}
    (h : DataW.trod enc Tryz.prog w base spare held fuel 242 cs = some x) : ∃ g : Ex, cs = [.string g.1, .int .i64 g.2.1, .int .i64 g.2.2] ∧ g.1.size ≤ maxLen := by
  obtain ⟨xs, n, _, _, hl, hlen, hf⟩ := DataW.trod_struct Tryz.underlying242 h
  have e6 : Tryz.prog.cellsOf 242 = 3 := by kernel_rfl
  rw [e6] at hl
  match xs, hlen, cs, hl with
  | [y0, y1, y2], _, [c0, c1, c2], _ =>
  have k0 := hf 0 _ rfl
  have k1 := hf 1 _ rfl
  have k2 := hf 2 _ rfl
  have e3 : Tryz.prog.cellsOf 3 = 1 := by kernel_rfl
  have e4 : Tryz.prog.cellsOf 9 = 1 := by kernel_rfl
  simp [e3, e4] at k0 k1 k2
  obtain ⟨a0, h0, _, wa⟩ := DataW.trod_string Tryz.underlying9 k0
  obtain ⟨a1, h1, _, wb⟩ := DataW.trod_int Tryz.underlying3 k1
  obtain ⟨a2, h2, _, wc⟩ := DataW.trod_int Tryz.underlying3 k2
  simp at h0 h1 h2
  subst h0 h1 h2
  exact ⟨(a0, a1, a2), rfl, wa⟩

set_option maxRecDepth 100000 in
theorem te_of_trod {H : Type} {enc : TypeId × Value → H} {w : World} {base : Nat} {held : Bool} {fuel : Nat} {cs : List Value} {x : DataW H × List MemPlace}
    (h : DataW.trod enc Tryz.prog w base (fun _ => true) held fuel 95 cs = some x) : ∃ a n cap es, cs = [.slice a n cap] ∧ TE w a n cap es := by
  have e1 : Tryz.prog.cellsOf 242 = 3 := by kernel_rfl
  have ez : (zE).1.size ≤ maxLen := by decide
  rcases Deep.open_slice Tryz.underlying95 h with ⟨hcs, _⟩ | ⟨a, len, cap, m, n, D, Pl, hcs, hb, hl, hm, hmm, hx, hd⟩
  · exact ⟨none, 0, 0, [], hcs, rfl, Nat.zero_le _, fun i => by simpa using ez, fun h => absurd rfl h, Nat.le_refl _⟩
  · simp at hmm
    rw [hmm] at hd
    rw [e1] at hd
    obtain ⟨G, hG⟩ := Deep.choose_lt (α := Ex) (p := fun i g => (∃ cs', w.cells? base (a.add (i * 3)) 3 = some cs' ∧ cs' = [.string g.1, .int .i64 g.2.1, .int .i64 g.2.2]) ∧ g.1.size ≤ maxLen) (n := len) (fun i hi => by
      obtain ⟨cs', h1, h2⟩ := hd i (by omega)
      obtain ⟨s, e, hI⟩ := export_cells h2
      exact ⟨s, ⟨cs', h1, e⟩, hI⟩)
    have hgi : ∀ i, i < len → ((List.range len).map G).getD i zE = G i := fun i hi => by simp [List.getD_eq_getElem?_getD, hi]
    refine ⟨some a, len, cap, (List.range len).map G, hcs, by simp, by omega, fun i => ?_, ?_, hl⟩
    · by_cases hi : i < len
      · rw [hgi i hi]; exact (hG i hi).2
      · rw [List.getD_eq_getElem?_getD, List.getElem?_eq_none (by simp; omega)]; exact ez
    intro hn
    obtain ⟨b, off, spot⟩ := a
    have hspot : spot = none := by
      obtain ⟨⟨cs', h1, h2⟩, _⟩ := hG 0 (by omega)
      have := (World.cells?_some h1).2.2 0 (by omega)
      rw [h2] at this
      simpa [Addr.add] using World.cell?_spot this
    subst hspot
    refine ⟨b, off, rfl, fun i hi => ?_⟩
    obtain ⟨⟨cs', h1, h2⟩, _⟩ := hG i hi
    have hc := (World.cells?_some h1).2.2
    rw [h2] at hc
    rw [hgi i hi]
    simp only [addM] at hc
    exact ⟨hc 0 (by omega), hc 1 (by omega), hc 2 (by omega)⟩

theorem array8 {α : Type} {cs : Array α} (h : cs.size = 8) : ∃ c0 c1 c2 c3 c4 c5 c6 c7, cs = #[c0, c1, c2, c3, c4, c5, c6, c7] := by
  obtain ⟨l⟩ := cs
  match l, h with
  | [c0, c1, c2, c3, c4, c5, c6, c7], _ => exact ⟨c0, c1, c2, c3, c4, c5, c6, c7, rfl⟩

set_option maxRecDepth 100000 in
theorem open_module {H : Type} {enc : TypeId × Value → H} {w : World} {base b0 : Nat} {held : Bool} {r : Reach} {v : Value} {d : DataW H} {p : List MemPlace}
    (hv : Value.okWide Tryz.prog w r b0 97 v) (h : DataW.Trod enc Tryz.prog w base (fun _ => true) held 97 v d p) :
    ∃ (nm : ByteArray) (ta : Option Addr) (tn tc : Nat) (tz : List Int) (ba : Option Addr) (bn bc : Nat) (bl : List Bk) (da : Option Addr) (dn dc : Nat) (dz : List Int) (bss : Int) (ra : Option Addr) (rn rc : Nat) (rz : List Int) (ia : Option Addr) (im ic : Nat) (ss : List ByteArray) (ea : Option Addr) (en ec : Nat) (es : List Ex),
      v = .agg #[.string nm, .slice ta tn tc, .slice ba bn bc, .slice da dn dc, .int .i64 bss, .slice ra rn rc, .slice ia im ic, .slice ea en ec] ∧ MT w nm ta tn tc tz ba bn bc bl da dn dc dz bss ra rn rc rz ia im ic ss ea en ec es := by
  obtain ⟨cs, rfl, hsz⟩ := okWide_struct Tryz.underlying97 hv
  obtain ⟨c0, c1, c2, c3, c4, c5, c6, c7, rfl⟩ := array8 (hsz.trans (by kernel_rfl))
  obtain ⟨fuel, hf⟩ := h
  obtain ⟨xs, n, _, _, hl, hlen, hf⟩ := DataW.trod_struct Tryz.underlying97 hf
  match xs, hlen with
  | [y0, y1, y2, y3, y4, y5, y6, y7], _ =>
  have k0 := hf 0 _ rfl
  have k1 := hf 1 _ rfl
  have k2 := hf 2 _ rfl
  have k3 := hf 3 _ rfl
  have k4 := hf 4 _ rfl
  have k5 := hf 5 _ rfl
  have k6 := hf 6 _ rfl
  have k7 := hf 7 _ rfl
  have e1 : Tryz.prog.cellsOf 3 = 1 := by kernel_rfl
  have e2 : Tryz.prog.cellsOf 9 = 1 := by kernel_rfl
  have e3 : Tryz.prog.cellsOf 24 = 1 := by kernel_rfl
  have e4 : Tryz.prog.cellsOf 93 = 1 := by kernel_rfl
  have e5 : Tryz.prog.cellsOf 41 = 1 := by kernel_rfl
  have e6 : Tryz.prog.cellsOf 94 = 1 := by kernel_rfl
  have e7 : Tryz.prog.cellsOf 95 = 1 := by kernel_rfl
  simp [Value.cells, e1, e2, e3, e4, e5, e6, e7] at k0 k1 k2 k3 k4 k5 k6 k7
  obtain ⟨nm, h0, _, w0⟩ := DataW.trod_string Tryz.underlying9 k0
  obtain ⟨ta, tn, tc, tz, h1, w1⟩ := ints_of_trod k1
  obtain ⟨ba, bn, bc, bl, h2, w2⟩ := bks_of_trod k2
  obtain ⟨da, dn, dc, dz, h3, w3⟩ := bs_of_trod k3
  obtain ⟨bss, h4, _, w4⟩ := DataW.trod_int Tryz.underlying3 k4
  obtain ⟨ra, rn, rc, rz, h5, w5⟩ := ints_of_trod k5
  obtain ⟨ia, im, ic, ss, h6, w6⟩ := ts_of_trod k6
  obtain ⟨ea, en, ec, es, h7, w7⟩ := te_of_trod k7
  simp at h0 h1 h2 h3 h4 h5 h6 h7
  subst h0 h1 h2 h3 h4 h5 h6 h7
  exact ⟨nm, ta, tn, tc, tz, ba, bn, bc, bl, da, dn, dc, dz, bss, ra, rn, rc, rz, ia, im, ic, ss, ea, en, ec, es, rfl, w0, w1, w2, w3, wf_i64 w4, w5, w6, w7⟩
end Go.Proofs.YtngdgogjlpjjpaeGreat

namespace Go.Proofs.YtngdgogjlpjjpaeGreat
open Go.ChangeShapes Go.WideShapes Go.ChangeAt Go.RowKit
set_option linter.unusedVariables false

set_option maxRecDepth 100000 in
theorem module_cells {H : Type} {enc : TypeId × Value → H} {w : World} {base : Nat} {held : Bool} {fuel : Nat} {cs : List Value} {x : DataW H × List MemPlace}
    (h : DataW.trod enc Tryz.prog w base (fun _ => true) held fuel 97 cs = some x) : ∃ m : Md, cs = m.cells.toList ∧ m.mt w := by
  obtain ⟨xs, n, _, _, hl, hlen, hf⟩ := DataW.trod_struct Tryz.underlying97 h
  have e8 : Tryz.prog.cellsOf 97 = 8 := by kernel_rfl
  rw [e8] at hl
  match xs, hlen, cs, hl with
  | [y0, y1, y2, y3, y4, y5, y6, y7], _, [c0, c1, c2, c3, c4, c5, c6, c7], _ =>
  have k0 := hf 0 _ rfl
  have k1 := hf 1 _ rfl
  have k2 := hf 2 _ rfl
  have k3 := hf 3 _ rfl
  have k4 := hf 4 _ rfl
  have k5 := hf 5 _ rfl
  have k6 := hf 6 _ rfl
  have k7 := hf 7 _ rfl
  have e1 : Tryz.prog.cellsOf 3 = 1 := by kernel_rfl
  have e2 : Tryz.prog.cellsOf 9 = 1 := by kernel_rfl
  have e3 : Tryz.prog.cellsOf 24 = 1 := by kernel_rfl
  have e4 : Tryz.prog.cellsOf 93 = 1 := by kernel_rfl
  have e5 : Tryz.prog.cellsOf 41 = 1 := by kernel_rfl
  have e6 : Tryz.prog.cellsOf 94 = 1 := by kernel_rfl
  have e7 : Tryz.prog.cellsOf 95 = 1 := by kernel_rfl
  simp [e1, e2, e3, e4, e5, e6, e7] at k0 k1 k2 k3 k4 k5 k6 k7
  obtain ⟨nm, h0, _, w0⟩ := DataW.trod_string Tryz.underlying9 k0
  obtain ⟨ta, tn, tc, tz, h1, w1⟩ := ints_of_trod k1
  obtain ⟨ba, bn, bc, bl, h2, w2⟩ := bks_of_trod k2
  obtain ⟨da, dn, dc, dz, h3, w3⟩ := bs_of_trod k3
  obtain ⟨bss, h4, _, w4⟩ := DataW.trod_int Tryz.underlying3 k4
  obtain ⟨ra, rn, rc, rz, h5, w5⟩ := ints_of_trod k5
  obtain ⟨ia, im, ic, ss, h6, w6⟩ := ts_of_trod k6
  obtain ⟨ea, en, ec, es, h7, w7⟩ := te_of_trod k7
  simp at h0 h1 h2 h3 h4 h5 h6 h7
  subst h0 h1 h2 h3 h4 h5 h6 h7
  exact ⟨⟨nm, ta, tn, tc, tz, ba, bn, bc, bl, da, dn, dc, dz, bss, ra, rn, rc, rz, ia, im, ic, ss, ea, en, ec, es⟩, rfl, w0, w1, w2, w3, wf_i64 w4, w5, w6, w7⟩

set_option maxRecDepth 100000 in
theorem ms_of_trod {H : Type} {enc : TypeId × Value → H} {w : World} {base : Nat} {held : Bool} {fuel : Nat} {cs : List Value} {x : DataW H × List MemPlace}
    (h : DataW.trod enc Tryz.prog w base (fun _ => true) held fuel 22 cs = some x) : ∃ a n cap ms, cs = [.slice a n cap] ∧ MS w a n cap ms := by
  have e1 : Tryz.prog.cellsOf 97 = 8 := by kernel_rfl
  rcases Deep.open_slice Tryz.underlying22 h with ⟨hcs, _⟩ | ⟨a, len, cap, m, n, D, Pl, hcs, hb, hl, hm, hmm, hx, hd⟩
  · exact ⟨none, 0, 0, [], hcs, rfl, Nat.zero_le _, fun h => absurd rfl h, fun i hi => by omega, Nat.le_refl _⟩
  · simp at hmm
    rw [hmm] at hd
    rw [e1] at hd
    haveI : Inhabited Md := ⟨zMd⟩
    obtain ⟨G, hG⟩ := Deep.choose_lt (α := Md) (p := fun i g => (∃ cs', w.cells? base (a.add (i * 8)) 8 = some cs' ∧ cs' = g.cells.toList) ∧ g.mt w) (n := len) (fun i hi => by
      obtain ⟨cs', h1, h2⟩ := hd i (by omega)
      obtain ⟨s, e, hI⟩ := module_cells h2
      exact ⟨s, ⟨cs', h1, e⟩, hI⟩)
    have hgi : ∀ i, i < len → ((List.range len).map G).getD i zMd = G i := fun i hi => by simp [List.getD_eq_getElem?_getD, hi]
    refine ⟨some a, len, cap, (List.range len).map G, hcs, by simp, by omega, ?_, fun i hi => by rw [hgi i hi]; exact (hG i hi).2, hl⟩
    intro hn
    obtain ⟨b, off, spot⟩ := a
    have hspot : spot = none := by
      obtain ⟨⟨cs', h1, h2⟩, _⟩ := hG 0 (by omega)
      have := (World.cells?_some h1).2.2 0 (by omega)
      rw [h2] at this
      simpa [Addr.add, Md.cells] using World.cell?_spot this
    subst hspot
    refine ⟨b, off, rfl, fun i hi => ?_⟩
    obtain ⟨⟨cs', h1, h2⟩, _⟩ := hG i hi
    have hc := (World.cells?_some h1).2.2
    rw [h2] at hc
    rw [hgi i hi]
    simp only [addM] at hc
    exact ⟨hc 0 (by omega), hc 1 (by omega), hc 2 (by omega), hc 3 (by omega), hc 4 (by omega), hc 5 (by omega), hc 6 (by omega), hc 7 (by omega)⟩

set_option maxRecDepth 100000 in
theorem open_modules {H : Type} {enc : TypeId × Value → H} {w : World} {base b0 : Nat} {held : Bool} {r : Reach} {v : Value} {d : DataW H} {p : List MemPlace}
    (hv : Value.okWide Tryz.prog w r b0 22 v) (h : DataW.Trod enc Tryz.prog w base (fun _ => true) held 22 v d p) :
    ∃ a n cap ms, v = .slice a n cap ∧ MS w a n cap ms := by
  obtain ⟨a0, len0, cap0, rfl⟩ := okWide_slice Tryz.underlying22 hv
  obtain ⟨fuel, hf⟩ := h
  obtain ⟨a, n, cap, ms, e, hm⟩ := ms_of_trod hf
  simp [Value.cells] at e
  obtain ⟨rfl, rfl, rfl⟩ := e
  exact ⟨_, _, _, ms, rfl, hm⟩
end Go.Proofs.YtngdgogjlpjjpaeGreat

namespace Go.Proofs.YtngdgogjlpjjpaeGreat
open Go.ChangeShapes Go.WideShapes Go.ChangeAt Go.RowKit
set_option linter.unusedVariables false

set_option maxRecDepth 100000 in
theorem target_cells {H : Type} {enc : TypeId × Value → H} {w : World} {base : Nat} {held : Bool} {spare : Nat → Bool} {fuel : Nat} {cs : List Value} {x : DataW H × List MemPlace}
    (h : DataW.trod enc Tryz.prog w base spare held fuel 67 cs = some x) : ∃ g : Tg, cs = [.int .i64 g.1, .int .i64 g.2.1, .int .i64 g.2.2] := by
  obtain ⟨xs, n, _, _, hl, hlen, hf⟩ := DataW.trod_struct Tryz.underlying67 h
  have e6 : Tryz.prog.cellsOf 67 = 3 := by kernel_rfl
  rw [e6] at hl
  match xs, hlen, cs, hl with
  | [y0, y1, y2], _, [c0, c1, c2], _ =>
  have k0 := hf 0 _ rfl
  have k1 := hf 1 _ rfl
  have k2 := hf 2 _ rfl
  have e3 : Tryz.prog.cellsOf 3 = 1 := by kernel_rfl
  simp [e3] at k0 k1 k2
  obtain ⟨a0, h0, _, wa⟩ := DataW.trod_int Tryz.underlying3 k0
  obtain ⟨a1, h1, _, wb⟩ := DataW.trod_int Tryz.underlying3 k1
  obtain ⟨a2, h2, _, wc⟩ := DataW.trod_int Tryz.underlying3 k2
  simp at h0 h1 h2
  subst h0 h1 h2
  exact ⟨(a0, a1, a2), rfl⟩

set_option maxRecDepth 100000 in
theorem tg_of_trod {H : Type} {enc : TypeId × Value → H} {w : World} {base : Nat} {held : Bool} {fuel : Nat} {cs : List Value} {x : DataW H × List MemPlace}
    (h : DataW.trod enc Tryz.prog w base (fun _ => true) held fuel 179 cs = some x) : ∃ a n cap zs, cs = [.slice a n cap] ∧ TgS w a n cap zs := by
  have e1 : Tryz.prog.cellsOf 67 = 3 := by kernel_rfl
  rcases Deep.open_slice Tryz.underlying179 h with ⟨hcs, _⟩ | ⟨a, len, cap, m, n, D, Pl, hcs, hb, hl, hm, hmm, hx, hd⟩
  · exact ⟨none, 0, 0, [], hcs, rfl, Nat.zero_le _, fun h => absurd rfl h, Nat.le_refl _⟩
  · simp at hmm
    rw [hmm] at hd
    rw [e1] at hd
    obtain ⟨G, hG⟩ := Deep.choose_lt (α := Tg) (p := fun i g => ∃ cs', w.cells? base (a.add (i * 3)) 3 = some cs' ∧ cs' = [.int .i64 g.1, .int .i64 g.2.1, .int .i64 g.2.2]) (n := len) (fun i hi => by
      obtain ⟨cs', h1, h2⟩ := hd i (by omega)
      obtain ⟨s, e⟩ := target_cells h2
      exact ⟨s, cs', h1, e⟩)
    have hgi : ∀ i, i < len → ((List.range len).map G).getD i zT = G i := fun i hi => by simp [List.getD_eq_getElem?_getD, hi]
    refine ⟨some a, len, cap, (List.range len).map G, hcs, by simp, by omega, ?_, hl⟩
    intro hn
    obtain ⟨b, off, spot⟩ := a
    have hspot : spot = none := by
      obtain ⟨cs', h1, h2⟩ := hG 0 (by omega)
      have := (World.cells?_some h1).2.2 0 (by omega)
      rw [h2] at this
      simpa [Addr.add] using World.cell?_spot this
    subst hspot
    refine ⟨b, off, rfl, fun i hi => ?_⟩
    obtain ⟨cs', h1, h2⟩ := hG i hi
    have hc := (World.cells?_some h1).2.2
    rw [h2] at hc
    rw [hgi i hi]
    simp only [addM] at hc
    exact ⟨hc 0 (by omega), hc 1 (by omega), hc 2 (by omega)⟩

set_option maxRecDepth 100000 in
theorem tss_of_trod {H : Type} {enc : TypeId × Value → H} {w : World} {base : Nat} {held : Bool} {fuel : Nat} {cs : List Value} {x : DataW H × List MemPlace}
    (h : DataW.trod enc Tryz.prog w base (fun _ => true) held fuel 25 cs = some x) : ∃ a cap ts, cs = [.slice a (List.length ts) cap] ∧ TsS w a ts.length cap ts := by
  have e1 : Tryz.prog.cellsOf 179 = 1 := by kernel_rfl
  rcases Deep.open_slice Tryz.underlying25 h with ⟨hcs, _⟩ | ⟨a, len, cap, m, n, D, Pl, hcs, hb, hl, hm, hmm, hx, hd⟩
  · exact ⟨none, 0, [], hcs, rfl, Nat.zero_le _, fun h => absurd rfl h, fun i hi => absurd hi (by simp), Nat.le_refl _⟩
  · simp at hmm
    rw [hmm] at hd
    rw [e1] at hd
    obtain ⟨G, hG⟩ := Deep.choose_lt (α := TB) (p := fun i g => (∃ cs', w.cells? base (a.add (i * 1)) 1 = some cs' ∧ cs' = [svT g]) ∧ TgS w g.2.1 g.1.length g.2.2 g.1) (n := len) (fun i hi => by
      obtain ⟨cs', h1, h2⟩ := hd i (by omega)
      obtain ⟨a', n', c', zs', e, hI⟩ := tg_of_trod h2
      have hn' := hI.1
      subst hn'
      exact ⟨(zs', a', c'), ⟨cs', h1, e⟩, hI⟩)
    have hgi : ∀ i, i < len → ((List.range len).map G).getD i zTB = G i := fun i hi => by simp [List.getD_eq_getElem?_getD, hi]
    have hll : ((List.range len).map G).length = len := by simp
    refine ⟨some a, cap, (List.range len).map G, by rw [hll]; exact hcs, ?_⟩
    rw [hll]
    refine ⟨by simp, by omega, ?_, fun i hi => by rw [hgi i hi]; exact (hG i hi).2, hl⟩
    intro hn
    obtain ⟨b, off, spot⟩ := a
    have hspot : spot = none := by
      obtain ⟨⟨cs', h1, h2⟩, _⟩ := hG 0 (by omega)
      have := (World.cells?_some h1).2.2 0 (by omega)
      rw [h2] at this
      simpa [Addr.add] using World.cell?_spot this
    subst hspot
    refine ⟨b, off, rfl, fun i hi => ?_⟩
    obtain ⟨⟨cs', h1, h2⟩, _⟩ := hG i hi
    have hc := (World.cells?_some h1).2.2
    rw [h2] at hc
    rw [hgi i hi]
    simp only [addM] at hc
    simpa using hc 0 (by omega)

set_option maxRecDepth 100000 in
theorem place_cells {H : Type} {enc : TypeId × Value → H} {w : World} {base : Nat} {held : Bool} {fuel : Nat} {cs : List Value} {x : DataW H × List MemPlace}
    (h : DataW.trod enc Tryz.prog w base (fun _ => true) held fuel 177 cs = some x) : ∃ g : PB, cs = [.int .i64 g.1.text, svP g, .int .i64 g.1.data, .int .i64 g.1.size] ∧ IS w g.2.1 g.1.banks.length g.2.2 g.1.banks := by
  obtain ⟨xs, n, _, _, hl, hlen, hf⟩ := DataW.trod_struct Tryz.underlying177 h
  have e6 : Tryz.prog.cellsOf 177 = 4 := by kernel_rfl
  rw [e6] at hl
  match xs, hlen, cs, hl with
  | [y0, y1, y2, y3], _, [c0, c1, c2, c3], _ =>
  have k0 := hf 0 _ rfl
  have k1 := hf 1 _ rfl
  have k2 := hf 2 _ rfl
  have k3 := hf 3 _ rfl
  have e3 : Tryz.prog.cellsOf 3 = 1 := by kernel_rfl
  have e4 : Tryz.prog.cellsOf 24 = 1 := by kernel_rfl
  simp [e3, e4] at k0 k1 k2 k3
  obtain ⟨a0, h0, _, wa⟩ := DataW.trod_int Tryz.underlying3 k0
  obtain ⟨ta, tn, tc, tz, h1, w1⟩ := ints_of_trod k1
  obtain ⟨a2, h2, _, wc⟩ := DataW.trod_int Tryz.underlying3 k2
  obtain ⟨a3, h3, _, wd⟩ := DataW.trod_int Tryz.underlying3 k3
  simp at h0 h1 h2 h3
  subst h0 h1 h2 h3
  have hn' := w1.1
  subst hn'
  exact ⟨(⟨a0, tz, a2, a3⟩, ta, tc), rfl, w1⟩

set_option maxRecDepth 100000 in
theorem pls_of_trod {H : Type} {enc : TypeId × Value → H} {w : World} {base : Nat} {held : Bool} {fuel : Nat} {cs : List Value} {x : DataW H × List MemPlace}
    (h : DataW.trod enc Tryz.prog w base (fun _ => true) held fuel 23 cs = some x) : ∃ a cap xs, cs = [.slice a (List.length xs) cap] ∧ PlS w a xs.length cap xs := by
  have e1 : Tryz.prog.cellsOf 177 = 4 := by kernel_rfl
  rcases Deep.open_slice Tryz.underlying23 h with ⟨hcs, _⟩ | ⟨a, len, cap, m, n, D, Pl', hcs, hb, hl, hm, hmm, hx, hd⟩
  · exact ⟨none, 0, [], hcs, rfl, Nat.zero_le _, fun h => absurd rfl h, fun i hi => absurd hi (by simp), Nat.le_refl _⟩
  · simp at hmm
    rw [hmm] at hd
    rw [e1] at hd
    haveI : Inhabited PB := ⟨zPB⟩
    obtain ⟨G, hG⟩ := Deep.choose_lt (α := PB) (p := fun i g => (∃ cs', w.cells? base (a.add (i * 4)) 4 = some cs' ∧ cs' = [.int .i64 g.1.text, svP g, .int .i64 g.1.data, .int .i64 g.1.size]) ∧ IS w g.2.1 g.1.banks.length g.2.2 g.1.banks) (n := len) (fun i hi => by
      obtain ⟨cs', h1, h2⟩ := hd i (by omega)
      obtain ⟨s, e, hI⟩ := place_cells h2
      exact ⟨s, ⟨cs', h1, e⟩, hI⟩)
    have hgi : ∀ i, i < len → ((List.range len).map G).getD i zPB = G i := fun i hi => by simp [List.getD_eq_getElem?_getD, hi]
    have hll : ((List.range len).map G).length = len := by simp
    refine ⟨some a, cap, (List.range len).map G, by rw [hll]; exact hcs, ?_⟩
    rw [hll]
    refine ⟨by simp, by omega, ?_, fun i hi => by rw [hgi i hi]; exact (hG i hi).2, hl⟩
    intro hn
    obtain ⟨b, off, spot⟩ := a
    have hspot : spot = none := by
      obtain ⟨⟨cs', h1, h2⟩, _⟩ := hG 0 (by omega)
      have := (World.cells?_some h1).2.2 0 (by omega)
      rw [h2] at this
      simpa [Addr.add] using World.cell?_spot this
    subst hspot
    refine ⟨b, off, rfl, fun i hi => ?_⟩
    obtain ⟨⟨cs', h1, h2⟩, _⟩ := hG i hi
    have hc := (World.cells?_some h1).2.2
    rw [h2] at hc
    rw [hgi i hi]
    simp only [addM] at hc
    exact ⟨hc 0 (by omega), hc 1 (by omega), hc 2 (by omega), hc 3 (by omega)⟩

theorem array6l {α : Type} {cs : Array α} (h : cs.size = 6) : ∃ c0 c1 c2 c3 c4 c5, cs = #[c0, c1, c2, c3, c4, c5] := by
  obtain ⟨l⟩ := cs
  match l, h with
  | [c0, c1, c2, c3, c4, c5], _ => exact ⟨c0, c1, c2, c3, c4, c5, rfl⟩

set_option maxRecDepth 100000 in
theorem open_layout {H : Type} {enc : TypeId × Value → H} {w : World} {base b0 : Nat} {held : Bool} {r : Reach} {v : Value} {d : DataW H} {p : List MemPlace}
    (hv : Value.okWide Tryz.prog w r b0 27 v) (h : DataW.Trod enc Tryz.prog w base (fun _ => true) held 27 v d p) :
    ∃ (L : Lay) (a0 : Option Addr) (c0 : Nat) (xs : List PB) (a2 : Option Addr) (c2 : Nat) (a5 : Option Addr) (c5 : Nat) (ts : List TB),
      v = .agg #[.slice a0 xs.length c0, .int .i64 L.stack, .slice a2 L.slots.length c2, .int .i64 L.flash, .int .i64 L.ram, .slice a5 ts.length c5] ∧ LyT w L a0 c0 xs a2 c2 a5 c5 ts := by
  obtain ⟨cs, rfl, hsz⟩ := okWide_struct Tryz.underlying27 hv
  obtain ⟨c0, c1, c2, c3, c4, c5, rfl⟩ := array6l (hsz.trans (by kernel_rfl))
  obtain ⟨fuel, hf⟩ := h
  obtain ⟨xs, n, _, _, hl, hlen, hf⟩ := DataW.trod_struct Tryz.underlying27 hf
  match xs, hlen with
  | [y0, y1, y2, y3, y4, y5], _ =>
  have k0 := hf 0 _ rfl
  have k1 := hf 1 _ rfl
  have k2 := hf 2 _ rfl
  have k3 := hf 3 _ rfl
  have k4 := hf 4 _ rfl
  have k5 := hf 5 _ rfl
  have e1 : Tryz.prog.cellsOf 3 = 1 := by kernel_rfl
  have e2 : Tryz.prog.cellsOf 23 = 1 := by kernel_rfl
  have e3 : Tryz.prog.cellsOf 24 = 1 := by kernel_rfl
  have e4 : Tryz.prog.cellsOf 25 = 1 := by kernel_rfl
  simp [Value.cells, e1, e2, e3, e4] at k0 k1 k2 k3 k4 k5
  obtain ⟨a0, d0, xs, h0, w0⟩ := pls_of_trod k0
  obtain ⟨st, h1, _, w1⟩ := DataW.trod_int Tryz.underlying3 k1
  obtain ⟨a2, n2, d2, sl, h2, w2⟩ := ints_of_trod k2
  obtain ⟨fl, h3, _, w3⟩ := DataW.trod_int Tryz.underlying3 k3
  obtain ⟨rm, h4, _, w4⟩ := DataW.trod_int Tryz.underlying3 k4
  obtain ⟨a5, d5, ts, h5, w5⟩ := tss_of_trod k5
  simp at h0 h1 h2 h3 h4 h5
  subst h0 h1 h2 h3 h4 h5
  have hn' := w2.1
  subst hn'
  exact ⟨⟨xs.map (fun x => x.1), st, sl, fl, rm, ts.map (fun x => x.1)⟩, a0, d0, xs, a2, d2, a5, d5, ts, rfl, w0, rfl, w2, w5, rfl, wf_i64 w1, wf_i64 w3, wf_i64 w4⟩
end Go.Proofs.YtngdgogjlpjjpaeGreat

namespace Go.Proofs.YtngdgogjlpjjpaeGreat
open Go.ChangeShapes Go.WideShapes Go.ChangeAt Go.RowKit
set_option linter.unusedVariables false

theorem array6 {α : Type} {cs : Array α} (h : cs.size = 6) : ∃ c0 c1 c2 c3 c4 c5, cs = #[c0, c1, c2, c3, c4, c5] := by
  obtain ⟨l⟩ := cs
  match l, h with
  | [c0, c1, c2, c3, c4, c5], _ => exact ⟨c0, c1, c2, c3, c4, c5, rfl⟩

theorem array3 {α : Type} {cs : Array α} (h : cs.size = 3) : ∃ c0 c1 c2, cs = #[c0, c1, c2] := by
  obtain ⟨l⟩ := cs
  match l, h with
  | [c0, c1, c2], _ => exact ⟨c0, c1, c2, rfl⟩

set_option maxRecDepth 100000 in
theorem open_mem {H : Type} {enc : TypeId × Value → H} {w : World} {base b0 : Nat} {held : Bool} {r : Reach} {v : Value} {d : DataW H} {p : List MemPlace}
    (hv : Value.okWide Tryz.prog w r b0 84 v) (h : DataW.Trod enc Tryz.prog w base (fun _ => true) held 84 v d p) :
    ∃ (a1 a2 a3 : Option Addr) (n1 c1 n2 c2 n3 c3 : Nat) (x1 x2 x3 : List Int), v = .agg #[.slice a1 n1 c1, .slice a2 n2 c2, .slice a3 n3 c3] ∧ BS w a1 n1 c1 x1 ∧ BS w a2 n2 c2 x2 ∧ BS w a3 n3 c3 x3 := by
  obtain ⟨cs, rfl, hsz⟩ := okWide_struct Tryz.underlying84 hv
  obtain ⟨c0, c1, c2, rfl⟩ := array3 (hsz.trans (by kernel_rfl))
  obtain ⟨fuel, hf⟩ := h
  obtain ⟨xs, n, _, _, hl, hlen, hf⟩ := DataW.trod_struct Tryz.underlying84 hf
  match xs, hlen with
  | [y0, y1, y2], _ =>
  have k0 := hf 0 _ rfl
  have k1 := hf 1 _ rfl
  have k2 := hf 2 _ rfl
  have e3 : Tryz.prog.cellsOf 41 = 1 := by kernel_rfl
  simp [Value.cells, e3] at k0 k1 k2
  obtain ⟨a1, n1, d1, x1, e1, b1⟩ := bs_of_trod k0
  obtain ⟨a2, n2, d2, x2, e2, b2⟩ := bs_of_trod k1
  obtain ⟨a3, n3, d3, x3, e3, b3⟩ := bs_of_trod k2
  simp at e1 e2 e3
  subst e1 e2 e3
  exact ⟨a1, a2, a3, n1, d1, n2, d2, n3, d3, x1, x2, x3, rfl, b1, b2, b3⟩
end Go.Proofs.YtngdgogjlpjjpaeGreat

namespace Go.Proofs.YtngdgogjlpjjpaeGreat
open Go.ChangeShapes Go.WideShapes Go.ChangeAt Go.RowKit
set_option linter.unusedVariables false

theorem array3t {α : Type} {cs : Array α} (h : cs.size = 3) : ∃ c0 c1 c2, cs = #[c0, c1, c2] := by
  obtain ⟨l⟩ := cs
  match l, h with
  | [c0, c1, c2], _ => exact ⟨c0, c1, c2, rfl⟩

set_option maxRecDepth 100000 in
theorem open_target {H : Type} {enc : TypeId × Value → H} {w : World} {base b0 : Nat} {spare : Nat → Bool} {held : Bool} {r : Reach} {v : Value} {d : DataW H} {p : List MemPlace}
    (hv : Value.okWide Tryz.prog w r b0 67 v) (h : DataW.Trod enc Tryz.prog w base spare held 67 v d p) :
    ∃ (o d a : Int), v = .agg #[.int .i64 o, .int .i64 d, .int .i64 a] := by
  obtain ⟨cs, rfl, hsz⟩ := okWide_struct Tryz.underlying67 hv
  obtain ⟨c0, c1, c2, rfl⟩ := array3t (hsz.trans (by kernel_rfl))
  obtain ⟨fuel, hf⟩ := h
  obtain ⟨xs, n, _, _, hl, hlen, hf⟩ := DataW.trod_struct Tryz.underlying67 hf
  match xs, hlen with
  | [y0, y1, y2], _ =>
  have k0 := hf 0 _ rfl
  have k1 := hf 1 _ rfl
  have k2 := hf 2 _ rfl
  have e3 : Tryz.prog.cellsOf 3 = 1 := by kernel_rfl
  simp [Value.cells, e3] at k0 k1 k2
  obtain ⟨a0, h0, _, wa⟩ := DataW.trod_int Tryz.underlying3 k0
  obtain ⟨a1, h1, _, wb⟩ := DataW.trod_int Tryz.underlying3 k1
  obtain ⟨a2, h2, _, wc⟩ := DataW.trod_int Tryz.underlying3 k2
  simp at h0 h1 h2
  subst h0 h1 h2
  exact ⟨a0, a1, a2, rfl⟩
end Go.Proofs.YtngdgogjlpjjpaeGreat

namespace Go.Proofs.YtngdgogjlpjjpaeGreat
open Go.ChangeShapes Go.WideShapes Go.ChangeAt Go.RowKit
set_option linter.unusedVariables false

set_option maxRecDepth 100000 in
theorem liftedFnExactPlan (os : Os) (started : os.Started) (H : Type) (enc : TypeId × Value → H) :
    ReturnsInHanded {} Tryz.checked os 6 .any (Rows.fnExactPlanSpec.pre6 enc Tryz.prog Tryz.f6 Rows.fnExactPlanRow.domain false) (Rows.fnExactPlanSpec.post enc Tryz.prog Tryz.f6 false true false false) := by
  refine returnsInHanded_of_change (C := Tryz.checked) own started (by kernel_rfl) Tryz.func6
    (ChangeSpec.witness6 (enc := enc) (C := Tryz.checked) false ⟨#[], #[.slice none 0 0, .agg #[.slice none 0 0, .int .i64 0, .slice none 0 0, .int .i64 0, .int .i64 0, .slice none 0 0], .agg #[.int .i64 0, .int .i64 0, .int .i64 0], .int .i64 0], []⟩ 8 (by kernel_rfl) (by kernel_rfl) (by kernel_rfl) (by kernel_rfl)) ?_
  intro W base args ds gs before hval0 hW hcnd _
  have hval : ∀ (j : Nat) t v, Tryz.f6.params[j]? = some t → args[j]? = some v → Value.okWide Tryz.prog W .any base t v := hval0
  have hW' := hW
  obtain ⟨p, q, hA0, hV, rfl, hfz, hnd⟩ := hW
  have hA : DataW.TrodAll enc Tryz.prog W 0 (fun _ => true) true Tryz.f6.params.toList args.toList ds p := hA0
  rw [Tryz.params6] at hA hval
  obtain ⟨v0, vs0, d0, ds0, p0, q0, hargs, rfl, rfl, h0, r0⟩ := trodAll_cons hA
  obtain ⟨v1, vs1, d1, ds1, p1, q1, rfl, rfl, rfl, h1, r1⟩ := trodAll_cons r0
  obtain ⟨v2, vs2, d2, ds2, p2, q2, rfl, rfl, rfl, h2, r2⟩ := trodAll_cons r1
  obtain ⟨v3, vs3, d3, ds3, p3, q3, rfl, rfl, rfl, h3, r3⟩ := trodAll_cons r2
  obtain ⟨rfl, rfl, rfl⟩ := trodAll_nil r3
  obtain rfl : args = #[v0, v1, v2, v3] := by cases args; simp_all
  obtain ⟨rfl, rfl⟩ := trodVars_none hV
  have k0 := h0
  have lt0 : ∀ x ∈ p0, x.block < W.heap.size := by obtain ⟨m, hm⟩ := k0; exact DataW.trod_lt m _ _ _ hm
  obtain ⟨ma0, mn0, mc0, ms0, rfl, mh0⟩ := open_modules (hval 0 22 v0 rfl rfl) h0
  have k1 := h1
  have lt1 : ∀ x ∈ p1, x.block < W.heap.size := by obtain ⟨m, hm⟩ := k1; exact DataW.trod_lt m _ _ _ hm
  obtain ⟨yL, ya0, yc0, yxs, ya2, yc2, ya5, yc5, yts, rfl, yh⟩ := open_layout (hval 1 27 v1 rfl rfl) h1
  have k2 := h2
  have lt2 : ∀ x ∈ p2, x.block < W.heap.size := by obtain ⟨m, hm⟩ := k2; exact DataW.trod_lt m _ _ _ hm
  obtain ⟨tm, tb, tt, rfl⟩ := open_target (hval 2 67 v2 rfl rfl) h2
  obtain ⟨a3, rfl, rfl, rfl, w3⟩ := open_int Tryz.underlying3 (hval 3 3 v3 rfl rfl) h3
  clear hA0 hval0
  refine (exactPlan_walk ma0 mn0 mc0 ms0 yL ya0 yc0 yxs ya2 yc2 ya5 yc5 yts tm tb tt a3 W mh0 yh).mono fun e W' ⟨he, bel⟩ => ?_
  subst he
  exact ⟨_, rfl, _, _, _, [], _, [], hW', trodAll_mk1 (shut_bool Tryz.underlying4 _), (trodAll_cons_mk (Below.trod laidOut (by kernel_rfl) (of_decide_eq_true (by kernel_rfl)) k0 bel lt0) (trodAll_cons_mk (Below.trod laidOut (by kernel_rfl) (of_decide_eq_true (by kernel_rfl)) k1 bel lt1) (trodAll_cons_mk (Below.trod laidOut (by kernel_rfl) (of_decide_eq_true (by kernel_rfl)) k2 bel lt2) (trodAll_cons_mk (shut_int Tryz.underlying3 w3) trodAll_mk0)))), rfl, bel.frame _, fun h => by cases h⟩

theorem FnExactPlan_proved : Rows.FnExactPlanSaid :=
  OpenClaim.holds_of_wide 6 Tryz.f6 rfl rfl rfl rfl rfl rfl rfl ⟨rfl, rfl, rfl, rfl, rfl⟩ rfl rfl rfl rfl rfl (by kernel_rfl) Tryz.func6 (by kernel_rfl)
    (of_decide_eq_true (by kernel_rfl)) (by unfold Func.isWrapper; first | (rw [if_pos (by decide +kernel)]; kernel_rfl) | (rw [if_neg (by decide +kernel)]; exact ⟨rfl, rfl⟩))
    (fun os started H enc _ => liftedFnExactPlan os started H enc)
#print axioms FnExactPlan_proved
end Go.Proofs.YtngdgogjlpjjpaeGreat
