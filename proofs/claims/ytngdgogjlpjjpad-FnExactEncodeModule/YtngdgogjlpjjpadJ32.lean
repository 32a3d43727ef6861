import Derived.Test.YtngdgogjlpjjpadJ26
import Derived.Test.YtngdgogjlpjjpadJ29
import Derived.Test.YtngdgogjlpjjpadJ30
import Derived.Test.YtngdgogjlpjjpadJ31
namespace Go.Proofs.Ytngdgogjlpjjpad
open Go.RowKit
set_option linter.unusedVariables false
set_option linter.unusedSimpArgs false
set_option maxRecDepth 100000

/-- WHAT EncodeModule GIVES. -/
def encZ (nm : ByteArray) (tn : Nat) (tz : List Int) (bn : Nat) (bl : List Bk) (dn : Nat) (dz : List Int) (bss : Int) (rn : Nat) (rz : List Int) (im : Nat) (ss : List ByteArray) (en : Nat) (es : List Ex) : List Int :=
  if mdo nm tn tz bn bl dn bss rn rz im ss en es = 0 then encM nm tz bn bl dn dz bss rn rz im ss en es else []
theorem reb_encBs (gs : List Nat) (bl : List Bk) : ∀ k, k ≤ bl.length → encBs (reb gs bl) k = encBs bl k
  | 0, _ => by simp [encBs]
  | k + 1, h => by
    have ih := reb_encBs gs bl k (by omega)
    unfold encBs at *
    rw [flat_succ _ (reb gs bl) zB k (by rw [reb_len]; omega), flat_succ _ bl zB k (by omega), ih, reb_at gs bl k (by omega)]
theorem reb_encZ (gs : List Nat) (nm : ByteArray) (tn : Nat) (tz : List Int) (bn : Nat) (bl : List Bk) (dn : Nat) (dz : List Int) (bss : Int) (rn : Nat) (rz : List Int) (im : Nat) (ss : List ByteArray) (en : Nat) (es : List Ex) (h : bl.length = bn) :
    encZ nm tn tz bn (reb gs bl) dn dz bss rn rz im ss en es = encZ nm tn tz bn bl dn dz bss rn rz im ss en es := by
  unfold encZ
  rw [reb_mdo _ _ _ _ _ _ _ _ _ _ _ _ _ _ h]
  unfold encM enc4 enc3 enc2
  rw [reb_encBs gs bl bn (by omega)]
theorem sEncodeModule_all (nm : ByteArray) (ta : Option Addr) (tn tc : Nat) (tz : List Int) (ba : Option Addr) (bn bc : Nat) (bl : List Bk) (db : Nat) (dn dc : Nat) (dz : List Int) (bss : Int) (ra : Option Addr) (rn rc : Nat) (rz : List Int) (ia : Option Addr) (im ic : Nat) (ss : List ByteArray) (ea : Option Addr) (en ec : Nat) (es : List Ex) (w : World)
    (h : MD w nm ta tn tc tz ba bn bc bl (some ⟨db, 0, none⟩) dn dc dz bss ra rn rc rz ia im ic ss ea en ec es) :
    Calls Try.prog 11 #[.agg #[.string nm, .slice ta tn tc, .slice ba bn bc, .slice (some ⟨db, 0, none⟩) dn dc, .int .i64 bss, .slice ra rn rc, .slice ia im ic, .slice ea en ec]] w (EmPost w (encZ nm tn tz bn bl dn dz bss rn rz im ss en es)) := by
  unfold encZ
  by_cases hv : mdo nm tn tz bn bl dn bss rn rz im ss en es = 0
  · rw [if_pos hv]; exact sEncodeModule_any nm ta tn tc tz ba bn bc bl db dn dc dz bss ra rn rc rz ia im ic ss ea en ec es w h hv
  · rw [if_neg hv]; exact sEncodeModule_bad nm ta tn tc tz ba bn bc bl _ dn dc dz bss ra rn rc rz ia im ic ss ea en ec es w h hv
theorem iEncodeModule_all (nm : ByteArray) (ta : Option Addr) (tn tc : Nat) (tz : List Int) (ba : Option Addr) (bn bc : Nat) (bl : List Bk) (db : Nat) (dn dc : Nat) (dz : List Int) (bss : Int) (ra : Option Addr) (rn rc : Nat) (rz : List Int) (ia : Option Addr) (im ic : Nat) (ss : List ByteArray) (ea : Option Addr) (en ec : Nat) (es : List Ex) (w : World)
    (h : MD w nm ta tn tc tz ba bn bc bl (some ⟨db, 0, none⟩) dn dc dz bss ra rn rc rz ia im ic ss ea en ec es) :
    Calls Try.prog 8 #[.agg #[.string nm, .slice ta tn tc, .slice ba bn bc, .slice (some ⟨db, 0, none⟩) dn dc, .int .i64 bss, .slice ra rn rc, .slice ia im ic, .slice ea en ec]] w (EmPost w (encZ nm tn tz bn bl dn dz bss rn rz im ss en es)) := by
  unfold encZ
  by_cases hv : mdo nm tn tz bn bl dn bss rn rz im ss en es = 0
  · rw [if_pos hv]; exact iEncodeModule_any nm ta tn tc tz ba bn bc bl db dn dc dz bss ra rn rc rz ia im ic ss ea en ec es w h hv
  · rw [if_neg hv]; exact iEncodeModule_bad nm ta tn tc tz ba bn bc bl _ dn dc dz bss ra rn rc rz ia im ic ss ea en ec es w h hv

/-- the heads of banks that were copied -/
def bankF (xs : List Nat) (bl : List Bk) (i : Nat) : Option Addr × Nat × Nat := (some ⟨xs.getD i 0, 0, none⟩, (bl.getD i zB).2.1, (bl.getD i zB).2.1)
theorem sumB_bank (xs : List Nat) (bl : List Bk) : ∀ n, sumB (bankF xs bl) n = upS (fun j => (bl.getD j zB).2.1) n
  | 0 => rfl
  | n + 1 => by show sumB (bankF xs bl) n + _ = upS _ n + _; rw [sumB_bank xs bl n]; rfl
/-- the rows of a module that was copied may be marked -/
theorem mod_sl {nm : ByteArray} {ta : Option Addr} {tn tc : Nat} {tz : List Int} {ba : Option Addr} {bn bc : Nat} {bl : List Bk} {da : Option Addr} {dn dc : Nat} {dz : List Int} {bss : Int} {ra : Option Addr} {rn rc : Nat} {rz : List Int} {ia : Option Addr} {im ic : Nat} {ss : List ByteArray} {ea : Option Addr} {en ec : Nat} {es : List Ex} {w W : World} {g1 g2 g3 g5 g6 g7 : Nat} {gs : List Nat} (h : MT w nm ta tn tc tz ba bn bc bl da dn dc dz bss ra rn rc rz ia im ic ss ea en ec es) (hg : gs.length = bn)
    (r1 : RowI W g1 tz) (r2 : RowB W g2 bn gs bl) (r3 : Row8 W g3 dz) (r5 : RowI W g5 rz) (r6 : RowT W g6 ss) (r7 : RowX W g7 es) {S : Nat → Prop} (s1 : S g1) (s2 : ¬ S g2) (sb : ∀ i, i < bn → S (gs.getD i 0)) (s3 : S g3) (s5 : S g5) (s6 : S g6) (s7 : S g7) :
    Sl S W (some ⟨g1, 0, none⟩) tn 1 ∧ SlB S W (some ⟨g2, 0, none⟩) bn (bankF gs bl) ∧ Sl S W (some ⟨g3, 0, none⟩) dn 1 ∧ Sl S W (some ⟨g5, 0, none⟩) rn 1 ∧ Sl S W (some ⟨g6, 0, none⟩) im 1 ∧ Sl S W (some ⟨g7, 0, none⟩) en 3 := by
  obtain ⟨⟨cur, hb, hsz, hc⟩, hr, _⟩ := r2
  obtain ⟨⟨cx, hx, hxs⟩, _⟩ := r7
  refine ⟨Sl.ofBlk (c := tc) r1 s1 (by simp [h.t.1]), ⟨fun _ => ⟨g2, 0, cur, _, rfl, s2, hb, fun i hi => by rw [Nat.zero_add]; exact hc i (by omega)⟩, fun i hi => ?_⟩, Sl.ofBlk (c := tc) r3 s3 (by simp [h.d.1]), Sl.ofBlk (c := tc) r5 s5 (by simp [h.r.1]), Sl.ofBlk (c := tc) r6 s6 (by simp [h.i.1]), Sl.ofBlk (c := tc) hx s7 (by rw [hxs, h.e.1]; exact Nat.le_refl _)⟩
  exact Sl.ofBlk (c := tc) (hr i (by omega)).1 (sb i hi) (by have e1 : (bankF gs bl i).2.1 = (bl.getD i zB).2.1 := rfl; have e2 := (h.b.2.2.2.1 i hi).1; rw [e1, List.size_toArray, List.length_map, e2]; omega)
end Go.Proofs.Ytngdgogjlpjjpad

namespace Go.Proofs.Ytngdgogjlpjjpad
open Go.RowKit
set_option linter.unusedVariables false
set_option linter.unusedSimpArgs false
set_option maxRecDepth 100000

theorem ob_kept {base : Nat} {S : Nat → Prop} {w w' : World} {v : Value} {zs : List Int} (ht : Turn S w w') (h : OB w base v zs) (hS : ∀ k, S k → ¬ base ≤ k) : OB w' base v zs := turn_ob ht h (fun k hk s => hS k s (h.lt k hk).1)
theorem ob_kept' {base : Nat} {S : Nat → Prop} {w w1 w' : World} {v : Value} {zs : List Int} (ht : Turn S w w') (h : OB w base v zs) (h1 : OB w1 base v zs) (hS : ∀ k, S k → ¬ k < w1.heap.size) : OB w' base v zs := turn_ob ht h (fun k hk s => hS k s (h1.lt k hk).2)

set_option maxHeartbeats 8000000 in
theorem exactEncodeModule_walk (nm : ByteArray) (ta : Option Addr) (tn tc : Nat) (tz : List Int) (ba : Option Addr) (bn bc : Nat) (bl : List Bk) (da : Option Addr) (dn dc : Nat) (dz : List Int) (bss : Int) (ra : Option Addr) (rn rc : Nat) (rz : List Int) (ia : Option Addr) (im ic : Nat) (ss : List ByteArray) (ea : Option Addr) (en ec : Nat) (es : List Ex) (w : World) (h : MT w nm ta tn tc tz ba bn bc bl da dn dc dz bss ra rn rc rz ia im ic ss ea en ec es) :
    Calls Try.prog 4 #[.agg #[.string nm, .slice ta tn tc, .slice ba bn bc, .slice da dn dc, .int .i64 bss, .slice ra rn rc, .slice ia im ic, .slice ea en ec]] w fun e w' => e = .returned (.bool true) ∧ Below w.heap.size w w' := by
  have HS := hide (fun w h => szModule_any nm ta tn tc tz ba bn bc bl da dn dc dz bss ra rn rc rz ia im ic ss ea en ec es 1048576 w h (by omega) (by omega))
  have HB0 : Below w.heap.size w (w.alloc (.cells #[.string nm, .slice ta tn tc, .slice ba bn bc, .slice da dn dc, .int .i64 bss, .slice ra rn rc, .slice ia im ic, .slice ea en ec] 37)) := (Below.refl _ _).alloc (Nat.le_refl _) _
  have k0 := Blk.new w #[.string nm, .slice ta tn tc, .slice ba bn bc, .slice da dn dc, .int .i64 bss, .slice ra rn rc, .slice ia im ic, .slice ea en ec] 37
  by_cases hs : 1048576 < mdSize nm tn bn bl dn rn im ss en es
  · rw [show szR 1048576 (mdSize nm tn bn bl dn rn im ss en es) = -1 by unfold szR; rw [if_pos (by omega)]] at HS
    go_enter Try.func4, Try.ntmps4
    go_wp2_with fail
    refine (HS.out _ (h.below HB0)).mono ?_
    rintro e w1 ⟨rfl, hb1⟩
    go_wp2
    go_ret
    exact ⟨rfl, HB0.trans (hb1.mono (by simp))⟩
  · obtain ⟨L, hL⟩ : ∃ L, L = szR 1048576 (mdSize nm tn bn bl dn rn im ss en es) := ⟨_, rfl⟩
    rw [← hL] at HS
    have hL0 : ¬ L < 0 := by rw [hL]; unfold szR; rw [if_neg (by omega)]; omega
    clear hL
    have hs' : mdSize nm tn bn bl dn rn im ss en es ≤ 1048576 := by omega
    have hbl := h.b.1
    have HT := hide (fun w h => toModule_any nm ta tn tc tz ba bn bc bl da dn dc dz bss ra rn rc rz ia im ic ss ea en ec es w h hs')
    have HMD := hide (fun (gs : List Nat) (g1 g2 g3 g5 g6 g7 : Nat) (W : World) (m : MT W nm (some ⟨g1, 0, none⟩) tn tn tz (some ⟨g2, 0, none⟩) bn bn (reb gs bl) (some ⟨g3, 0, none⟩) dn dn dz bss (some ⟨g5, 0, none⟩) rn rn rz (some ⟨g6, 0, none⟩) im im ss (some ⟨g7, 0, none⟩) en en es) => (show MD W nm (some ⟨g1, 0, none⟩) tn tn tz (some ⟨g2, 0, none⟩) bn bn (reb gs bl) (some ⟨g3, 0, none⟩) dn dn dz bss (some ⟨g5, 0, none⟩) rn rn rz (some ⟨g6, 0, none⟩) im im ss (some ⟨g7, 0, none⟩) en en es from md_of_mt m (by rw [reb_size _ _ _ _ _ _ _ _ _ _ _ hbl]; exact hs')))
    have HBL := hide hbl
    obtain ⟨Z, hZ⟩ : ∃ Z, Z = encZ nm tn tz bn bl dn dz bss rn rz im ss en es := ⟨_, rfl⟩
    have HRB := hide (fun gs => (reb_encZ gs nm tn tz bn bl dn dz bss rn rz im ss en es hbl).trans hZ.symm)
    have HSE := hide (fun (gs : List Nat) (g1 g2 g3 g5 g6 g7 : Nat) (W : World) (m : MD W nm (some ⟨g1, 0, none⟩) tn tn tz (some ⟨g2, 0, none⟩) bn bn (reb gs bl) (some ⟨g3, 0, none⟩) dn dn dz bss (some ⟨g5, 0, none⟩) rn rn rz (some ⟨g6, 0, none⟩) im im ss (some ⟨g7, 0, none⟩) en en es) => by
      have := sEncodeModule_all nm (some ⟨g1, 0, none⟩) tn tn tz (some ⟨g2, 0, none⟩) bn bn (reb gs bl) g3 dn dn dz bss (some ⟨g5, 0, none⟩) rn rn rz (some ⟨g6, 0, none⟩) im im ss (some ⟨g7, 0, none⟩) en en es W m
      rw [HRB.out] at this
      exact this)
    have HIE := hide (fun (gs : List Nat) (g1 g2 g3 g5 g6 g7 : Nat) (W : World) (m : MD W nm (some ⟨g1, 0, none⟩) tn tn tz (some ⟨g2, 0, none⟩) bn bn (reb gs bl) (some ⟨g3, 0, none⟩) dn dn dz bss (some ⟨g5, 0, none⟩) rn rn rz (some ⟨g6, 0, none⟩) im im ss (some ⟨g7, 0, none⟩) en en es) => by
      have := iEncodeModule_all nm (some ⟨g1, 0, none⟩) tn tn tz (some ⟨g2, 0, none⟩) bn bn (reb gs bl) g3 dn dn dz bss (some ⟨g5, 0, none⟩) rn rn rz (some ⟨g6, 0, none⟩) im im ss (some ⟨g7, 0, none⟩) en en es W m
      rw [HRB.out] at this
      exact this)
    have HSZ := hide (show ∀ xs : List Nat, tn + bn + sumB (bankF xs bl) bn + dn + rn + im + en ≤ 1048576 from fun xs => by rw [sumB_bank]; unfold mdSize at hs'; omega)
    clear hZ hs hs' hbl
    go_enter Try.func4, Try.ntmps4
    go_wp2_with fail
    refine (HS.out _ (h.below HB0)).mono ?_
    rintro e w1 ⟨rfl, hb1⟩
    have k1 := k0.below hb1
    have hB1 := HB0.trans (hb1.mono (by simp))
    clear hb1 HB0 k0 HS
    obtain ⟨q0, q1, q2, q3, q4, q5, q6, q7⟩ := k1.eight
    go_wp2_with fail
    refine (HT.out _ (h.below hB1)).mono ?_
    rintro e w2 ⟨g1, g2, g3, g5, g6, g7, rfl, _, _, _, _, _, _, r1, ⟨gs, hg, r2⟩, r3, r5, r6, r7, hb2⟩
    have m2 := HMD.out gs _ _ _ _ _ _ _ (mt_of_rows h hg r1 r2 r3 r5 r6 r7)
    have k2 := k1.below hb2
    have hB2 := hB1.trans (hb2.mono hB1.size)
    clear hb2 hB1 k1 r1 r2 r3 r5 r6 r7 q0 q1 q2 q3 q4 q5 q6 q7
    go_wp2_with fail
    refine (HSE.out gs g1 g2 g3 g5 g6 g7 _ m2).mono ?_
    rintro e w3 ⟨a0, n0, c0, rfl, O3, hb3, hZl⟩
    have k3 := k2.below hb3
    have hB3 := hB2.trans (hb3.mono hB2.size)
    have O0 := O3.mono hB2.size
    clear hb3 hB2 k2 m2 O3
    obtain ⟨q0, q1, q2, q3, q4, q5, q6, q7⟩ := k3.eight
    go_wp2_with fail
    refine (HT.out _ (h.below hB3)).mono ?_
    rintro e w4 ⟨x1, x2, x3, x5, x6, x7, rfl, l1, l2, l3, l5, l6, l7, r1, ⟨xs, hx, r2⟩, r3, r5, r6, r7, hb4⟩
    have n4 := mt_of_rows h hx r1 r2 r3 r5 r6 r7
    have k4 := k3.below hb4
    have hs3 := k3.lt
    have hs34 := hb4.size
    have hB4 := hB3.trans (hb4.mono hB3.size)
    have O4 := O0.below hb4
    have hx7 := r7.lt
    have hbs : ∀ i, i < bn → xs.getD i 0 < w4.heap.size ∧ x2 < xs.getD i 0 := fun i hi => ⟨(r2.2.1 i (by omega)).1.lt, (r2.2.1 i (by omega)).2⟩
    have HRW := hide (And.intro r1 (And.intro r2 (And.intro r3 (And.intro r5 (And.intro r6 r7)))))
    have HO0 := hide O0
    clear hb4 hB3 k3 r1 r2 r3 r5 r6 r7 q0 q1 q2 q3 q4 q5 q6 q7 O0
    have kX := Blk.new w4 #[.string nm, .slice (some ⟨x1, 0, none⟩) tn tn, .slice (some ⟨x2, 0, none⟩) bn bn, .slice (some ⟨x3, 0, none⟩) dn dn, .int .i64 bss, .slice (some ⟨x5, 0, none⟩) rn rn, .slice (some ⟨x6, 0, none⟩) im im, .slice (some ⟨x7, 0, none⟩) en en] 29
    have hA : Below w4.heap.size w4 (w4.alloc (.cells #[.string nm, .slice (some ⟨x1, 0, none⟩) tn tn, .slice (some ⟨x2, 0, none⟩) bn bn, .slice (some ⟨x3, 0, none⟩) dn dn, .int .i64 bss, .slice (some ⟨x5, 0, none⟩) rn rn, .slice (some ⟨x6, 0, none⟩) im im, .slice (some ⟨x7, 0, none⟩) en en] 29)) := (Below.refl _ _).alloc (Nat.le_refl _) _
    have k5 := k4.below hA
    have hB5 := hB4.trans (hA.mono hB4.size)
    have n5 := n4.below hA
    have m5 := HMD.out xs _ _ _ _ _ _ _ n5
    have O5 := O4.below hA
    clear n4 k4 hB4 O4
    obtain ⟨q0, q1, q2, q3, q4, q5, q6, q7⟩ := kX.eight
    obtain ⟨p0, p1, p2, p3, p4, p5, p6, p7⟩ := k5.eight
    go_wp2_with fail
    refine (HIE.out xs x1 x2 x3 x5 x6 x7 _ m5).mono ?_
    rintro e w6 ⟨a1, n1, c1, rfl, V6, hb6, _⟩
    have kX6 := kX.below hb6
    have k6 := k5.below hb6
    have n6 := n5.below hb6
    have hB6 := hB5.trans (hb6.mono hB5.size)
    have O6 := O5.below hb6
    have hA6 := hA.trans (hb6.mono hA.size)
    have V6' : OB w6 (w4.heap.size + 1) (.slice a1 n1 c1) Z := V6.mono (by simp)
    have hA6s := kX6.lt
    clear hb6 hB5 k5 kX n5 m5 O5 V6 hA q0 q1 q2 q3 q4 q5 q6 q7 p0 p1 p2 p3 p4 p5 p6 p7
    go_wp2_with fail
    refine (eqByteS_any a1 a0 n1 c1 n0 c0 Z Z _ V6'.bs O6.bs).mono ?_
    rintro e w7 ⟨he, hb7⟩
    rw [decide_eq_true rfl] at he
    subst he
    have kX7 := kX6.below hb7
    have k7 := k6.below hb7
    have n7 := n6.below hb7
    have hB7 := hB6.trans (hb7.mono hB6.size)
    have O7 := O6.below hb7
    have V7 := V6'.below hb7
    have hA7 := hA6.trans (hb7.mono hA6.size)
    have hA7s := kX7.lt
    clear hb7 hB6 k6 kX6 n6 O6 V6' hA6 hA6s
    obtain ⟨q0, q1, q2, q3, q4, q5, q6, q7⟩ := kX7.eight
    obtain ⟨p0, p1, p2, p3, p4, p5, p6, p7⟩ := k7.eight
    have h7 := h.below hB7
    have HZ := hide (fun (ys : List Nat) => show ∀ i, i < bn → ((reb ys bl).getD i zB).2.1 = ((reb xs bl).getD i zB).2.1 ∧ ((reb ys bl).getD i zB).2.2.2 = ((reb xs bl).getD i zB).2.2.2 from fun i hi => by rw [reb_at _ _ _ (by rw [HBL.out]; exact hi), reb_at _ _ _ (by rw [HBL.out]; exact hi)]; exact ⟨rfl, rfl⟩)
    have HBS := hide hbs
    clear hbs
    have HL := hide (And.intro l1 (And.intro l2 (And.intro l3 (And.intro l5 (And.intro l6 (And.intro l7 hx7))))))
    clear l1 l2 l3 l5 l6 l7 hx7
    go_wp2_with fail
    go_region_held3 (fun w' => w'.cell? ⟨w.heap.size, 0, none⟩ = some (.string nm) ∧ w'.cell? ⟨w.heap.size, 1, none⟩ = some (.slice ta tn tc) ∧ w'.cell? ⟨w.heap.size, 2, none⟩ = some (.slice ba bn bc) ∧ w'.cell? ⟨w.heap.size, 3, none⟩ = some (.slice da dn dc) ∧ w'.cell? ⟨w.heap.size, 4, none⟩ = some (.int .i64 bss) ∧ w'.cell? ⟨w.heap.size, 5, none⟩ = some (.slice ra rn rc) ∧ w'.cell? ⟨w.heap.size, 6, none⟩ = some (.slice ia im ic) ∧ w'.cell? ⟨w.heap.size, 7, none⟩ = some (.slice ea en ec) ∧ w'.cell? ⟨w4.heap.size, 0, none⟩ = some (.string nm) ∧ w'.cell? ⟨w4.heap.size, 1, none⟩ = some (.slice (some ⟨x1, 0, none⟩) tn tn) ∧ w'.cell? ⟨w4.heap.size, 2, none⟩ = some (.slice (some ⟨x2, 0, none⟩) bn bn) ∧ w'.cell? ⟨w4.heap.size, 3, none⟩ = some (.slice (some ⟨x3, 0, none⟩) dn dn) ∧ w'.cell? ⟨w4.heap.size, 4, none⟩ = some (.int .i64 bss) ∧ w'.cell? ⟨w4.heap.size, 5, none⟩ = some (.slice (some ⟨x5, 0, none⟩) rn rn) ∧ w'.cell? ⟨w4.heap.size, 6, none⟩ = some (.slice (some ⟨x6, 0, none⟩) im im) ∧ w'.cell? ⟨w4.heap.size, 7, none⟩ = some (.slice (some ⟨x7, 0, none⟩) en en)) (go_keep)
      (first
        | (go_at_call 12; refine (HT.out _ (h7.below (Below.refl _ _).drew)).mono ?_; rintro e w8 ⟨y1, y2, y3, y5, y6, y7, rfl, _, _, _, _, _, _, r1, ⟨ys, hy, r2⟩, r3, r5, r6, r7, hb8⟩; replace hb8 := undrew hb8; have n8 := mt_of_rows h hy r1 r2 r3 r5 r6 r7; obtain ⟨q0, q1, q2, q3, q4, q5, q6, q7⟩ := (kX7.below hb8).eight; obtain ⟨p0, p1, p2, p3, p4, p5, p6, p7⟩ := (k7.below hb8).eight)
        | (go_at_call 14; refine (eqModule_same nm (some ⟨x1, 0, none⟩) (some ⟨y1, 0, none⟩) tn tn tn tz (some ⟨x2, 0, none⟩) (some ⟨y2, 0, none⟩) bn bn bn (reb xs bl) (reb ys bl) (some ⟨x3, 0, none⟩) (some ⟨y3, 0, none⟩) dn dn dn dz bss (some ⟨x5, 0, none⟩) (some ⟨y5, 0, none⟩) rn rn rn rz (some ⟨x6, 0, none⟩) (some ⟨y6, 0, none⟩) im im im ss (some ⟨x7, 0, none⟩) (some ⟨y7, 0, none⟩) en en en es _ (n7.below hb8) n8 (HZ.out ys)).mono ?_; rintro e w9 ⟨rfl, hb9⟩; replace hb9 := hb8.trans (hb9.mono hb8.size); obtain ⟨q0, q1, q2, q3, q4, q5, q6, q7⟩ := (kX7.below hb9).eight; obtain ⟨p0, p1, p2, p3, p4, p5, p6, p7⟩ := (k7.below hb9).eight))
    have kX9 := kX7.below hb9
    have k9 := k7.below hb9
    have hB9 := hB7.trans (hb9.mono hB7.size)
    have O9 := O7.below hb9
    have V9 := V7.below hb9
    have hA9 := hA7.trans (hb9.mono hA7.size)
    have hA9s := kX9.lt
    clear hb9 hb8 n8 r1 r2 r3 r5 r6 r7 q0 q1 q2 q3 q4 q5 q6 q7 p0 p1 p2 p3 p4 p5 p6 p7 hB7 k7 kX7 n7 O7 V7 hA7 hA7s h7 HZ
    obtain ⟨q0, q1, q2, q3, q4, q5, q6, q7⟩ := kX9.eight
    obtain ⟨r1, r2, r3, r5, r6, r7⟩ := HRW.out
    obtain ⟨l1, l2, l3, l5, l6, l7, l8⟩ := HL.out
    have hS1 : ∀ j, (w3.heap.size ≤ j ∧ j < w4.heap.size ∧ j ≠ x2) → j < w9.heap.size := fun j hj => by omega
    have hbs := HBS.out
    obtain ⟨t1, t2, t3, t5, t6, t7⟩ := mod_sl (S := fun j => w3.heap.size ≤ j ∧ j < w4.heap.size ∧ j ≠ x2) h hx (r1.below hA9) (r2.below hA9) (r3.below hA9) (r5.below hA9) (r6.below hA9) (r7.below hA9) (by omega) (by omega) (fun i hi => by have := hbs i hi; omega) (by omega) (by omega) (by omega) (by omega)
    have HMK := hide (markModule_sl (fun j => w3.heap.size ≤ j ∧ j < w4.heap.size ∧ j ≠ x2) nm (some ⟨x1, 0, none⟩) tn tn (some ⟨x2, 0, none⟩) bn bn (bankF xs bl) (some ⟨x3, 0, none⟩) dn dn bss (some ⟨x5, 0, none⟩) rn rn (some ⟨x6, 0, none⟩) im im (some ⟨x7, 0, none⟩) en en 1 w9 hS1 t1 t2 t3 t5 t6 t7 (HSZ.out xs) (by omega))
    generalize 1 + tn + sumB (bankF xs bl) bn + dn + rn + im + 3 * en = K at HMK
    have hK0 : ¬ ((K : Int) < 0) := by omega
    clear hS1 t1 t2 t3 t5 t6 t7 r1 r2 r3 r5 r6 r7 hbs
    have HL9 := hide (And.intro l1 (And.intro l2 l3))
    clear l1 l2 l3 l5 l6 l7 l8 hA9 HL HBS HRW
    go_wp2_with fail
    refine HMK.out.mono ?_
    rintro e w10 ⟨rfl, M10⟩
    have O10 := ob_kept' M10.turn O9 HO0.out (fun k hk => by omega)
    have V10 := ob_kept M10.turn V9 (fun k hk => by omega)
    have k10 := turn_blk M10.turn k9 (by omega)
    have hB10 := below_turn hB9 M10.turn (fun k hk => by omega) hB9.size
    clear M10 O9 V9 k9 hB9 HMK kX9 hA9s q0 q1 q2 q3 q4 q5 q6 q7
    go_wp2_with fail
    refine (eqByteS_any a1 a0 n1 c1 n0 c0 Z Z _ V10.bs O10.bs).mono ?_
    rintro e w11 ⟨he, hb11⟩
    rw [decide_eq_true rfl] at he
    subst he
    have k11 := k10.below hb11
    have hB11 := hB10.trans (hb11.mono hB10.size)
    have O11 := O10.below hb11
    have V11 := V10.below hb11
    have hn1 : n1 ≤ 40000 := by have := V11.bs.1; omega
    clear hb11 hB10 k10 O10 V10
    go_wp2_with fail
    refine (markByteS_any a1 n1 c1 (w4.heap.size + 1) Z 1 w11 V11 (by omega) (by omega)).mono ?_
    rintro e w12 ⟨rfl, V12, T12⟩
    have O12 := turn_ob T12 O11 (fun k hk sk => by have a1 := (V11.lt k sk).1; have a2 := (HO0.out.lt k hk).2; omega)
    have k12 := turn_blk T12 k11 (fun sk => by have a1 := (V11.lt _ sk).1; omega)
    have hB12 := below_turn hB11 T12 (fun k sk => by have a1 := (V11.lt _ sk).1; omega) hB11.size
    clear T12 O11 k11 hB11 V11
    obtain ⟨q0, q1, q2, q3, q4, q5, q6, q7⟩ := k12.eight
    go_wp2_with fail
    refine (heldByteS_any a1 n1 c1 1 w12 V12.bs (by omega) (by omega)).mono ?_
    rintro e w13 ⟨rfl, rfl⟩
    have hnq : (((1 + n1 : Nat) : Int) != ((1 + n1 : Nat) : Int)) = false := by simp
    have hnn : ¬ (((1 + n1 : Nat) : Int) < 0) := by omega
    go_wp2_with fail
    refine (HT.out _ (h.below hB12)).mono ?_
    rintro e w14 ⟨y1, y2, y3, y5, y6, y7, rfl, _, _, _, _, _, _, r1, ⟨ys, hy, r2⟩, r3, r5, r6, r7, hb14⟩
    have m14 := HMD.out ys _ _ _ _ _ _ _ (mt_of_rows h hy r1 r2 r3 r5 r6 r7)
    have hB14 := hB12.trans (hb14.mono hB12.size)
    have O14 := O12.below hb14
    clear hb14 hB12 k12 O12 V12 r1 r2 r3 r5 r6 r7 q0 q1 q2 q3 q4 q5 q6 q7
    go_wp2_with fail
    refine (HIE.out ys y1 y2 y3 y5 y6 y7 _ m14).mono ?_
    rintro e w15 ⟨a2, n2, c2, rfl, V15, hb15, _⟩
    have hB15 := hB14.trans (hb15.mono hB14.size)
    have O15 := O14.below hb15
    clear hb15 hB14 O14 m14
    go_wp2_with fail
    refine (eqByteS_any a2 a0 n2 c2 n0 c0 Z Z _ V15.bs O15.bs).mono ?_
    rintro e w16 ⟨he, hb16⟩
    rw [decide_eq_true rfl] at he
    subst he
    have HB := hide (hB15.trans (hb16.mono hB15.size))
    clear hb16 hB15 O15 V15
    go_wp2
    go_ret
    exact ⟨rfl, HB.out⟩
end Go.Proofs.Ytngdgogjlpjjpad
