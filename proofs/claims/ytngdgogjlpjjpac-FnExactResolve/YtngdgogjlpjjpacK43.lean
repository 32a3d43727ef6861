import Derived.Test.YtngdgogjlpjjpacK37
import Derived.Test.YtngdgogjlpjjpacK41
import Derived.Test.YtngdgogjlpjjpacK42
import Derived.Deep.RegionHeld3
namespace Go.Proofs.Ytngdgogjlpjjpac
open Go.RowKit
set_option linter.unusedVariables false
set_option linter.unusedSimpArgs false
set_option maxRecDepth 100000

set_option maxHeartbeats 4000000 in
theorem eqModule_same (nm : ByteArray) (ta ta' : Option Addr) (tn tc tc' : Nat) (tz : List Int) (ba ba' : Option Addr) (bn bc bc' : Nat) (bl bl' : List Bk) (da da' : Option Addr) (dn dc dc' : Nat) (dz : List Int) (bss : Int) (ra ra' : Option Addr) (rn rc rc' : Nat) (rz : List Int) (ia ia' : Option Addr) (im ic ic' : Nat) (ss : List ByteArray) (ea ea' : Option Addr) (en ec ec' : Nat) (es : List Ex) (w : World) (h : MT w nm ta tn tc tz ba bn bc bl da dn dc dz bss ra rn rc rz ia im ic ss ea en ec es) (h' : MT w nm ta' tn tc' tz ba' bn bc' bl' da' dn dc' dz bss ra' rn rc' rz ia' im ic' ss ea' en ec' es) (hz : ∀ i, i < bn → (bl'.getD i zB).2.1 = (bl.getD i zB).2.1 ∧ (bl'.getD i zB).2.2.2 = (bl.getD i zB).2.2.2) :
    Calls Try.prog 27 #[.agg #[.string nm, .slice ta tn tc, .slice ba bn bc, .slice da dn dc, .int .i64 bss, .slice ra rn rc, .slice ia im ic, .slice ea en ec], .agg #[.string nm, .slice ta' tn tc', .slice ba' bn bc', .slice da' dn dc', .int .i64 bss, .slice ra' rn rc', .slice ia' im ic', .slice ea' en ec']] w fun e w' => e = .returned (.bool true) ∧ Below w.heap.size w w' := by
  have hB0 : Below w.heap.size w ((w.alloc (.cells #[.string nm, .slice ta tn tc, .slice ba bn bc, .slice da dn dc, .int .i64 bss, .slice ra rn rc, .slice ia im ic, .slice ea en ec] 56)).alloc (.cells #[.string nm, .slice ta' tn tc', .slice ba' bn bc', .slice da' dn dc', .int .i64 bss, .slice ra' rn rc', .slice ia' im ic', .slice ea' en ec'] 56)) := ((Below.refl _ _).alloc (Nat.le_refl _) _).alloc (by simp) _
  have u0 := (Blk.new w #[.string nm, .slice ta tn tc, .slice ba bn bc, .slice da dn dc, .int .i64 bss, .slice ra rn rc, .slice ia im ic, .slice ea en ec] 56).alloc (.cells #[.string nm, .slice ta' tn tc', .slice ba' bn bc', .slice da' dn dc', .int .i64 bss, .slice ra' rn rc', .slice ia' im ic', .slice ea' en ec'] 56)
  have v0 := Blk.new (w.alloc (.cells #[.string nm, .slice ta tn tc, .slice ba bn bc, .slice da dn dc, .int .i64 bss, .slice ra rn rc, .slice ia im ic, .slice ea en ec] 56)) #[.string nm, .slice ta' tn tc', .slice ba' bn bc', .slice da' dn dc', .int .i64 bss, .slice ra' rn rc', .slice ia' im ic', .slice ea' en ec'] 56
  simp only [World.size_alloc] at v0
  have hn : (nm.toList != nm.toList) = false := by simp
  have hs : (bss != bss) = false := by simp
  go_enter Try.func27, Try.ntmps27
  go_wp2_with fail
  refine (eqIntS_any ta ta' tn tc tn tc' tz tz _ (h.t.below hB0) (h'.t.below hB0)).mono ?_
  rw [decide_eq_true rfl]
  rintro e w1 ⟨rfl, hb⟩
  have hB1 := hB0.trans (hb.mono (by have := hB0.size; simp; omega))
  have u1 := u0.below hb
  have v1 := v0.below hb
  clear hb u0 v0
  obtain ⟨q0, q1, q2, q3, q4, q5, q6, q7⟩ := u1.eight
  obtain ⟨p0, p1, p2, p3, p4, p5, p6, p7⟩ := v1.eight
  go_wp2_with fail
  refine (eqIntSS_same ba ba' bn bc bc' bl bl' _ (h.b.below hB1) (h'.b.below hB1) hz).mono ?_
  rintro e w2 ⟨rfl, hb⟩
  have hB2 := hB1.trans (hb.mono (by have := hB1.size; omega))
  have u2 := u1.below hb
  have v2 := v1.below hb
  clear hb u1 v1 q0 q1 q2 q3 q4 q5 q6 q7 p0 p1 p2 p3 p4 p5 p6 p7
  obtain ⟨q0, q1, q2, q3, q4, q5, q6, q7⟩ := u2.eight
  obtain ⟨p0, p1, p2, p3, p4, p5, p6, p7⟩ := v2.eight
  go_wp2_with fail
  refine (eqByteS_any da da' dn dc dn dc' dz dz _ (h.d.below hB2) (h'.d.below hB2)).mono ?_
  rw [decide_eq_true rfl]
  rintro e w3 ⟨rfl, hb⟩
  have hB3 := hB2.trans (hb.mono (by have := hB2.size; omega))
  have u3 := u2.below hb
  have v3 := v2.below hb
  clear hb u2 v2 q0 q1 q2 q3 q4 q5 q6 q7 p0 p1 p2 p3 p4 p5 p6 p7
  obtain ⟨q0, q1, q2, q3, q4, q5, q6, q7⟩ := u3.eight
  obtain ⟨p0, p1, p2, p3, p4, p5, p6, p7⟩ := v3.eight
  go_wp2_with fail
  refine (eqIntS_any ra ra' rn rc rn rc' rz rz _ (h.r.below hB3) (h'.r.below hB3)).mono ?_
  rw [decide_eq_true rfl]
  rintro e w4 ⟨rfl, hb⟩
  have hB4 := hB3.trans (hb.mono (by have := hB3.size; omega))
  have u4 := u3.below hb
  have v4 := v3.below hb
  clear hb u3 v3 q0 q1 q2 q3 q4 q5 q6 q7 p0 p1 p2 p3 p4 p5 p6 p7
  obtain ⟨q0, q1, q2, q3, q4, q5, q6, q7⟩ := u4.eight
  obtain ⟨p0, p1, p2, p3, p4, p5, p6, p7⟩ := v4.eight
  go_wp2_with fail
  refine (eqStringS_same ia ia' im ic ic' ss _ (h.i.below hB4) (h'.i.below hB4)).mono ?_
  rintro e w5 ⟨rfl, hb⟩
  have hB5 := hB4.trans (hb.mono (by have := hB4.size; omega))
  have u5 := u4.below hb
  have v5 := v4.below hb
  clear hb u4 v4 q0 q1 q2 q3 q4 q5 q6 q7 p0 p1 p2 p3 p4 p5 p6 p7
  obtain ⟨q0, q1, q2, q3, q4, q5, q6, q7⟩ := u5.eight
  obtain ⟨p0, p1, p2, p3, p4, p5, p6, p7⟩ := v5.eight
  go_wp2_with fail
  refine (eqExportS_same ea ea' en ec ec' es _ (h.e.below hB5) (h'.e.below hB5)).mono ?_
  rintro e w6 ⟨rfl, hb⟩
  have hB6 := hB5.trans (hb.mono (by have := hB5.size; omega))
  have u6 := u5.below hb
  have v6 := v5.below hb
  clear hb u5 v5 q0 q1 q2 q3 q4 q5 q6 q7 p0 p1 p2 p3 p4 p5 p6 p7
  obtain ⟨q0, q1, q2, q3, q4, q5, q6, q7⟩ := u6.eight
  obtain ⟨p0, p1, p2, p3, p4, p5, p6, p7⟩ := v6.eight
  go_wp2
  go_ret
  exact ⟨rfl, hB6⟩

theorem mt_of_rows {nm : ByteArray} {ta : Option Addr} {tn tc : Nat} {tz : List Int} {ba : Option Addr} {bn bc : Nat} {bl : List Bk} {da : Option Addr} {dn dc : Nat} {dz : List Int} {bss : Int} {ra : Option Addr} {rn rc : Nat} {rz : List Int} {ia : Option Addr} {im ic : Nat} {ss : List ByteArray} {ea : Option Addr} {en ec : Nat} {es : List Ex} {w W : World} {g1 g2 g3 g5 g6 g7 : Nat} {gs : List Nat} (h : MT w nm ta tn tc tz ba bn bc bl da dn dc dz bss ra rn rc rz ia im ic ss ea en ec es) (hg : gs.length = bn)
    (r1 : RowI W g1 tz) (r2 : RowB W g2 bn gs bl) (r3 : Row8 W g3 dz) (r5 : RowI W g5 rz) (r6 : RowT W g6 ss) (r7 : RowX W g7 es) : MT W nm (some ⟨g1, 0, none⟩) tn tn tz (some ⟨g2, 0, none⟩) bn bn (reb gs bl) (some ⟨g3, 0, none⟩) dn dn dz bss (some ⟨g5, 0, none⟩) rn rn rz (some ⟨g6, 0, none⟩) im im ss (some ⟨g7, 0, none⟩) en en es where
  n := h.n
  t := r1.is (by rw [h.t.1]; exact h.t.2.1) h.t.2.2.1 _ _ h.t.1
  b := r2.bks h.b hg
  d := r3.bs (by rw [h.d.1]; exact h.d.2.1) h.d.2.2.1 _ _ h.d.1
  s := h.s
  r := r5.is (by rw [h.r.1]; exact h.r.2.1) h.r.2.2.1 _ _ h.r.1
  i := ⟨h.i.1, h.i.2.1, h.i.2.2.1, fun _ => ⟨g6, 0, rfl, fun i hi => by rw [Nat.zero_add]; exact r6.cell i (by rw [h.i.1]; exact hi)⟩, Nat.le_refl _⟩
  e := r7.te h.e
theorem md_of_mt {nm : ByteArray} {ta : Option Addr} {tn tc : Nat} {tz : List Int} {ba : Option Addr} {bn bc : Nat} {bl : List Bk} {da : Option Addr} {dn dc : Nat} {dz : List Int} {bss : Int} {ra : Option Addr} {rn rc : Nat} {rz : List Int} {ia : Option Addr} {im ic : Nat} {ss : List ByteArray} {ea : Option Addr} {en ec : Nat} {es : List Ex} {w : World} (h : MT w nm ta tn tc tz ba bn bc bl da dn dc dz bss ra rn rc rz ia im ic ss ea en ec es) (hs : mdSize nm tn bn bl dn rn im ss en es ≤ 1048576) : MD w nm ta tn tc tz ba bn bc bl da dn dc dz bss ra rn rc rz ia im ic ss ea en ec es where
  n := by unfold mdSize at hs; omega
  t := h.t
  b := h.b
  d := h.d
  s := h.s
  r := h.r
  i := h.i.ss (by unfold mdSize at hs; omega)
  e := h.e.es (by unfold mdSize at hs; omega)
theorem reb_size (gs : List Nat) (nm : ByteArray) (tn bn : Nat) (bl : List Bk) (dn rn im : Nat) (ss : List ByteArray) (en : Nat) (es : List Ex) (h : bl.length = bn) : mdSize nm tn bn (reb gs bl) dn rn im ss en es = mdSize nm tn bn bl dn rn im ss en es := by
  have key : ∀ k, k ≤ bn → upS (fun j => ((reb gs bl).getD j zB).2.1) k = upS (fun j => (bl.getD j zB).2.1) k := by
    intro k
    induction k with
    | zero => intro _; rfl
    | succ k ih =>
      intro hk
      show upS _ k + _ = upS _ k + _
      rw [ih (by omega)]
      congr 1
      simp only
      rw [reb_at _ _ _ (by omega)]
  unfold mdSize
  rw [key bn (Nat.le_refl _)]

set_option maxHeartbeats 4000000 in
theorem exactModuleOk_walk (nm : ByteArray) (ta : Option Addr) (tn tc : Nat) (tz : List Int) (ba : Option Addr) (bn bc : Nat) (bl : List Bk) (da : Option Addr) (dn dc : Nat) (dz : List Int) (bss : Int) (ra : Option Addr) (rn rc : Nat) (rz : List Int) (ia : Option Addr) (im ic : Nat) (ss : List ByteArray) (ea : Option Addr) (en ec : Nat) (es : List Ex) (w : World) (h : MT w nm ta tn tc tz ba bn bc bl da dn dc dz bss ra rn rc rz ia im ic ss ea en ec es) :
    Calls Try.prog 5 #[.agg #[.string nm, .slice ta tn tc, .slice ba bn bc, .slice da dn dc, .int .i64 bss, .slice ra rn rc, .slice ia im ic, .slice ea en ec]] w fun e w' => e = .returned (.bool true) ∧ Below w.heap.size w w' := by
  have HS := hide (fun w h => szModule_any nm ta tn tc tz ba bn bc bl da dn dc dz bss ra rn rc rz ia im ic ss ea en ec es 1048576 w h (by omega) (by omega))
  have HB0 : Below w.heap.size w (w.alloc (.cells #[.string nm, .slice ta tn tc, .slice ba bn bc, .slice da dn dc, .int .i64 bss, .slice ra rn rc, .slice ia im ic, .slice ea en ec] 51)) := (Below.refl _ _).alloc (Nat.le_refl _) _
  have k0 := Blk.new w #[.string nm, .slice ta tn tc, .slice ba bn bc, .slice da dn dc, .int .i64 bss, .slice ra rn rc, .slice ia im ic, .slice ea en ec] 51
  by_cases hs : 1048576 < mdSize nm tn bn bl dn rn im ss en es
  · rw [show szR 1048576 (mdSize nm tn bn bl dn rn im ss en es) = -1 by unfold szR; rw [if_pos (by omega)]] at HS
    go_enter Try.func5, Try.ntmps5
    go_wp2_with fail
    refine (HS.out _ (h.below HB0)).mono ?_
    rintro e w1 ⟨rfl, hb1⟩
    go_wp2
    go_ret
    exact ⟨rfl, HB0.trans (hb1.mono (by simp))⟩
  · obtain ⟨L, hL⟩ : ∃ L, L = szR 1048576 (mdSize nm tn bn bl dn rn im ss en es) := ⟨_, rfl⟩
    rw [← hL] at HS
    have hL0 : ¬ L < 0 := by rw [hL]; unfold szR; rw [if_neg (by omega)]; omega
    clear hL
    have hs' : mdSize nm tn bn bl dn rn im ss en es ≤ 1048576 := by omega
    have hbl := h.b.1
    have HT := hide (fun w h => toModule_any nm ta tn tc tz ba bn bc bl da dn dc dz bss ra rn rc rz ia im ic ss ea en ec es w h hs')
    have HMD := hide (fun (gs : List Nat) (g1 g2 g3 g5 g6 g7 : Nat) (W : World) (m : MT W nm (some ⟨g1, 0, none⟩) tn tn tz (some ⟨g2, 0, none⟩) bn bn (reb gs bl) (some ⟨g3, 0, none⟩) dn dn dz bss (some ⟨g5, 0, none⟩) rn rn rz (some ⟨g6, 0, none⟩) im im ss (some ⟨g7, 0, none⟩) en en es) => (show MD W nm (some ⟨g1, 0, none⟩) tn tn tz (some ⟨g2, 0, none⟩) bn bn (reb gs bl) (some ⟨g3, 0, none⟩) dn dn dz bss (some ⟨g5, 0, none⟩) rn rn rz (some ⟨g6, 0, none⟩) im im ss (some ⟨g7, 0, none⟩) en en es from md_of_mt m (by rw [reb_size _ _ _ _ _ _ _ _ _ _ _ hbl]; exact hs')))
    have HBL := hide hbl
    obtain ⟨V, hV⟩ : ∃ V, V = mdo nm tn tz bn bl dn bss rn rz im ss en es := ⟨_, rfl⟩
    have HRB := hide (fun gs => (reb_mdo gs nm tn tz bn bl dn bss rn rz im ss en es hbl).trans hV.symm)
    clear hV hs hs' hbl
    have hVV : (V != V) = false := by simp
    go_enter Try.func5, Try.ntmps5
    go_wp2_with fail
    refine (HS.out _ (h.below HB0)).mono ?_
    rintro e w1 ⟨rfl, hb1⟩
    have k1 := k0.below hb1
    have hB1 := HB0.trans (hb1.mono (by simp))
    clear hb1 HB0 k0 HS
    obtain ⟨q0, q1, q2, q3, q4, q5, q6, q7⟩ := k1.eight
    go_wp2_with fail
    refine (HT.out _ (h.below hB1)).mono ?_
    rintro e w2 ⟨g1, g2, g3, g5, g6, g7, rfl, _, _, _, _, _, _, r1, ⟨gs, hg, r2⟩, r3, r5, r6, r7, hb2⟩
    have m2 := HMD.out gs _ _ _ _ _ _ _ (mt_of_rows h hg r1 r2 r3 r5 r6 r7)
    have k2 := k1.below hb2
    have hB2 := hB1.trans (hb2.mono hB1.size)
    clear hb2 hB1 k1 r1 r2 r3 r5 r6 r7 q0 q1 q2 q3 q4 q5 q6 q7
    go_wp2_with fail
    refine (sModuleOk_any nm (some ⟨g1, 0, none⟩) tn tn tz (some ⟨g2, 0, none⟩) bn bn (reb gs bl) (some ⟨g3, 0, none⟩) dn dn dz bss (some ⟨g5, 0, none⟩) rn rn rz (some ⟨g6, 0, none⟩) im im ss (some ⟨g7, 0, none⟩) en en es _ m2).mono ?_
    rw [HRB.out]
    rintro e w3 ⟨rfl, hb3⟩
    have k3 := k2.below hb3
    have hB3 := hB2.trans (hb3.mono hB2.size)
    clear hb3 hB2 k2 m2
    obtain ⟨q0, q1, q2, q3, q4, q5, q6, q7⟩ := k3.eight
    go_wp2_with fail
    refine (HT.out _ (h.below hB3)).mono ?_
    rintro e w4 ⟨x1, x2, x3, x5, x6, x7, rfl, _, _, _, _, _, _, r1, ⟨xs, hx, r2⟩, r3, r5, r6, r7, hb4⟩
    have n4 := mt_of_rows h hx r1 r2 r3 r5 r6 r7
    have k4 := k3.below hb4
    have hB4 := hB3.trans (hb4.mono hB3.size)
    clear hb4 hB3 k3 r1 r2 r3 r5 r6 r7 q0 q1 q2 q3 q4 q5 q6 q7
    have kX := Blk.new w4 #[.string nm, .slice (some ⟨x1, 0, none⟩) tn tn, .slice (some ⟨x2, 0, none⟩) bn bn, .slice (some ⟨x3, 0, none⟩) dn dn, .int .i64 bss, .slice (some ⟨x5, 0, none⟩) rn rn, .slice (some ⟨x6, 0, none⟩) im im, .slice (some ⟨x7, 0, none⟩) en en] 56
    have hA : Below w4.heap.size w4 (w4.alloc (.cells #[.string nm, .slice (some ⟨x1, 0, none⟩) tn tn, .slice (some ⟨x2, 0, none⟩) bn bn, .slice (some ⟨x3, 0, none⟩) dn dn, .int .i64 bss, .slice (some ⟨x5, 0, none⟩) rn rn, .slice (some ⟨x6, 0, none⟩) im im, .slice (some ⟨x7, 0, none⟩) en en] 56)) := (Below.refl _ _).alloc (Nat.le_refl _) _
    have k5 := k4.below hA
    have hB5 := hB4.trans (hA.mono hB4.size)
    have n5 := n4.below hA
    have m5 := HMD.out xs _ _ _ _ _ _ _ n5
    clear n4 hA k4 hB4
    obtain ⟨q0, q1, q2, q3, q4, q5, q6, q7⟩ := kX.eight
    obtain ⟨p0, p1, p2, p3, p4, p5, p6, p7⟩ := k5.eight
    go_wp2_with fail
    refine (iModuleOk_any nm (some ⟨x1, 0, none⟩) tn tn tz (some ⟨x2, 0, none⟩) bn bn (reb xs bl) (some ⟨x3, 0, none⟩) dn dn dz bss (some ⟨x5, 0, none⟩) rn rn rz (some ⟨x6, 0, none⟩) im im ss (some ⟨x7, 0, none⟩) en en es _ m5).mono ?_
    rw [HRB.out]
    rintro e w6 ⟨rfl, hb6⟩
    have kX6 := kX.below hb6
    have k6 := k5.below hb6
    have n6 := n5.below hb6
    have hB6 := hB5.trans (hb6.mono hB5.size)
    clear hb6 hB5 k5 kX n5 m5 q0 q1 q2 q3 q4 q5 q6 q7 p0 p1 p2 p3 p4 p5 p6 p7
    obtain ⟨q0, q1, q2, q3, q4, q5, q6, q7⟩ := kX6.eight
    obtain ⟨p0, p1, p2, p3, p4, p5, p6, p7⟩ := k6.eight
    have h6 := h.below hB6
    have HZ := hide (fun (ys : List Nat) => show ∀ i, i < bn → ((reb ys bl).getD i zB).2.1 = ((reb xs bl).getD i zB).2.1 ∧ ((reb ys bl).getD i zB).2.2.2 = ((reb xs bl).getD i zB).2.2.2 from fun i hi => by rw [reb_at _ _ _ (by rw [HBL.out]; exact hi), reb_at _ _ _ (by rw [HBL.out]; exact hi)]; exact ⟨rfl, rfl⟩)
    go_wp2_with fail
    go_region_held3 (fun w' => w'.cell? ⟨w.heap.size, 0, none⟩ = some (.string nm) ∧ w'.cell? ⟨w.heap.size, 1, none⟩ = some (.slice ta tn tc) ∧ w'.cell? ⟨w.heap.size, 2, none⟩ = some (.slice ba bn bc) ∧ w'.cell? ⟨w.heap.size, 3, none⟩ = some (.slice da dn dc) ∧ w'.cell? ⟨w.heap.size, 4, none⟩ = some (.int .i64 bss) ∧ w'.cell? ⟨w.heap.size, 5, none⟩ = some (.slice ra rn rc) ∧ w'.cell? ⟨w.heap.size, 6, none⟩ = some (.slice ia im ic) ∧ w'.cell? ⟨w.heap.size, 7, none⟩ = some (.slice ea en ec) ∧ w'.cell? ⟨w4.heap.size, 0, none⟩ = some (.string nm) ∧ w'.cell? ⟨w4.heap.size, 1, none⟩ = some (.slice (some ⟨x1, 0, none⟩) tn tn) ∧ w'.cell? ⟨w4.heap.size, 2, none⟩ = some (.slice (some ⟨x2, 0, none⟩) bn bn) ∧ w'.cell? ⟨w4.heap.size, 3, none⟩ = some (.slice (some ⟨x3, 0, none⟩) dn dn) ∧ w'.cell? ⟨w4.heap.size, 4, none⟩ = some (.int .i64 bss) ∧ w'.cell? ⟨w4.heap.size, 5, none⟩ = some (.slice (some ⟨x5, 0, none⟩) rn rn) ∧ w'.cell? ⟨w4.heap.size, 6, none⟩ = some (.slice (some ⟨x6, 0, none⟩) im im) ∧ w'.cell? ⟨w4.heap.size, 7, none⟩ = some (.slice (some ⟨x7, 0, none⟩) en en)) (go_keep)
      (first
        | (go_at_call 25; refine (HT.out _ (h6.below (Below.refl _ _).drew)).mono ?_; rintro e w7 ⟨y1, y2, y3, y5, y6, y7, rfl, _, _, _, _, _, _, r1, ⟨ys, hy, r2⟩, r3, r5, r6, r7, hb7⟩; replace hb7 := undrew hb7; have n7 := mt_of_rows h hy r1 r2 r3 r5 r6 r7; obtain ⟨q0, q1, q2, q3, q4, q5, q6, q7⟩ := (kX6.below hb7).eight; obtain ⟨p0, p1, p2, p3, p4, p5, p6, p7⟩ := (k6.below hb7).eight)
        | (go_at_call 27; refine (eqModule_same nm (some ⟨x1, 0, none⟩) (some ⟨y1, 0, none⟩) tn tn tn tz (some ⟨x2, 0, none⟩) (some ⟨y2, 0, none⟩) bn bn bn (reb xs bl) (reb ys bl) (some ⟨x3, 0, none⟩) (some ⟨y3, 0, none⟩) dn dn dn dz bss (some ⟨x5, 0, none⟩) (some ⟨y5, 0, none⟩) rn rn rn rz (some ⟨x6, 0, none⟩) (some ⟨y6, 0, none⟩) im im im ss (some ⟨x7, 0, none⟩) (some ⟨y7, 0, none⟩) en en en es _ (n6.below hb7) n7 (HZ.out ys)).mono ?_; rintro e w8 ⟨rfl, hb8⟩; replace hb8 := hb7.trans (hb8.mono hb7.size); obtain ⟨q0, q1, q2, q3, q4, q5, q6, q7⟩ := (kX6.below hb8).eight; obtain ⟨p0, p1, p2, p3, p4, p5, p6, p7⟩ := (k6.below hb8).eight))
    have HB8 := hide (hB6.trans (hb8.mono hB6.size))
    go_wp2
    go_ret
    exact ⟨rfl, HB8.out⟩
end Go.Proofs.Ytngdgogjlpjjpac
