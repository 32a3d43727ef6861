import Derived.Test.YtngdgogjlpjjpaeGreatP21
namespace Go.Proofs.YtngdgogjlpjjpaeGreat
open Go.RowKit Classical
set_option linter.unusedVariables false
set_option linter.unusedSimpArgs false
set_option maxRecDepth 100000
theorem Blk.ly6 {w : World} {b : Nat} {t : TypeId} {v0 v1 v2 v3 v4 v5 : Value} (h : Blk w b #[v0, v1, v2, v3, v4, v5] t) : w.cell? ⟨b, 0, none⟩ = some v0 ∧ w.cell? ⟨b, 1, none⟩ = some v1 ∧ w.cell? ⟨b, 2, none⟩ = some v2 ∧ w.cell? ⟨b, 3, none⟩ = some v3 ∧ w.cell? ⟨b, 4, none⟩ = some v4 ∧ w.cell? ⟨b, 5, none⟩ = some v5 := ⟨h.cell 0, h.cell 1, h.cell 2, h.cell 3, h.cell 4, h.cell 5⟩
set_option maxHeartbeats 4000000 in
theorem sameLayout_any (L : Lay) (a0 : Option Addr) (c0 : Nat) (xs : List PB) (a2 : Option Addr) (c2 : Nat) (a5 : Option Addr) (c5 : Nat) (ts : List TB) (L' : Lay) (a0' : Option Addr) (c0' : Nat) (xs' : List PB) (a2' : Option Addr) (c2' : Nat) (a5' : Option Addr) (c5' : Nat) (ts' : List TB) (w : World) (h : LyT w L a0 c0 xs a2 c2 a5 c5 ts) (h' : LyT w L' a0' c0' xs' a2' c2' a5' c5' ts') :
    Calls Tryz.prog 143 #[.agg #[.slice a0 xs.length c0, .int .i64 L.stack, .slice a2 L.slots.length c2, .int .i64 L.flash, .int .i64 L.ram, .slice a5 ts.length c5], .agg #[.slice a0' xs'.length c0', .int .i64 L'.stack, .slice a2' L'.slots.length c2', .int .i64 L'.flash, .int .i64 L'.ram, .slice a5' ts'.length c5']] w fun e w' => e = .returned (.bool (decide (L = L'))) ∧ Below w.heap.size w w' := by
  have hps := h.ps
  have hps' := h'.ps
  have htt := h.tt
  have htt' := h'.tt
  have HE1 := hide (fun (W : World) (hb : Below w.heap.size w W) => sliceEqI_any a2 a2' L.slots.length c2 L'.slots.length c2' L.slots L'.slots W (h.s.below hb) (h'.s.below hb))
  have HE2 := hide (fun (W : World) (hb : Below w.heap.size w W) => equalFuncP_any a0 a0' xs.length c0 xs'.length c0' xs xs' W (h.p.below hb) (h'.p.below hb))
  have HE3 := hide (fun (W : World) (hb : Below w.heap.size w W) => equalFuncT_any a5 a5' ts.length c5 ts'.length c5' ts ts' W (h.t.below hb) (h'.t.below hb))
  rw [hps, hps'] at HE2
  rw [htt, htt'] at HE3
  clear h h' hps hps' htt htt'
  obtain ⟨pl, st, sl, fl, rm, tg⟩ := L
  obtain ⟨pl', st', sl', fl', rm', tg'⟩ := L'
  dsimp only at HE1 HE2 HE3 ⊢
  obtain ⟨r, hr⟩ : ∃ r, r = decide ((⟨pl, st, sl, fl, rm, tg⟩ : Lay) = ⟨pl', st', sl', fl', rm', tg'⟩) := ⟨_, rfl⟩
  rw [← hr]
  simp only [Lay.mk.injEq] at hr
  have HR := hide hr
  clear hr
  have B0 : Below w.heap.size w ((w.alloc (.cells #[.slice a0 xs.length c0, .int .i64 st, .slice a2 sl.length c2, .int .i64 fl, .int .i64 rm, .slice a5 ts.length c5] 36)).alloc (.cells #[.slice a0' xs'.length c0', .int .i64 st', .slice a2' sl'.length c2', .int .i64 fl', .int .i64 rm', .slice a5' ts'.length c5'] 36)) := ((Below.refl _ _).alloc (Nat.le_refl _) _).alloc (by simp) _
  have u := (Blk.new w #[.slice a0 xs.length c0, .int .i64 st, .slice a2 sl.length c2, .int .i64 fl, .int .i64 rm, .slice a5 ts.length c5] 36).alloc (.cells #[.slice a0' xs'.length c0', .int .i64 st', .slice a2' sl'.length c2', .int .i64 fl', .int .i64 rm', .slice a5' ts'.length c5'] 36)
  have v := Blk.new (w.alloc (.cells #[.slice a0 xs.length c0, .int .i64 st, .slice a2 sl.length c2, .int .i64 fl, .int .i64 rm, .slice a5 ts.length c5] 36)) #[.slice a0' xs'.length c0', .int .i64 st', .slice a2' sl'.length c2', .int .i64 fl', .int .i64 rm', .slice a5' ts'.length c5'] 36
  simp only [World.size_alloc] at v
  have HK := hide (And.intro B0 (And.intro u v))
  clear u v
  by_cases k1 : st = st'
  rotate_left
  · have g1 : (st == st') = false := by simpa using k1
    have HV := hide (show r = false by rw [HR.out]; simp [k1])
    clear HR HE1 HE2 HE3
    go_enter Tryz.func143, Tryz.ntmps143
    go_wp2
    go_ret
    exact ⟨ret_bool HV.out.symm, HK.out.1⟩
  have g1 : (st == st') = true := by simpa using k1
  have HC1 := hide k1
  clear k1
  by_cases k2 : fl = fl'
  rotate_left
  · have g2 : (fl == fl') = false := by simpa using k2
    have HV := hide (show r = false by rw [HR.out]; simp [k2])
    clear HR HE1 HE2 HE3
    go_enter Tryz.func143, Tryz.ntmps143
    go_wp2
    go_ret
    exact ⟨ret_bool HV.out.symm, HK.out.1⟩
  have g2 : (fl == fl') = true := by simpa using k2
  have HC2 := hide k2
  clear k2
  by_cases k3 : rm = rm'
  rotate_left
  · have g3 : (rm == rm') = false := by simpa using k3
    have HV := hide (show r = false by rw [HR.out]; simp [k3])
    clear HR HE1 HE2 HE3
    go_enter Tryz.func143, Tryz.ntmps143
    go_wp2
    go_ret
    exact ⟨ret_bool HV.out.symm, HK.out.1⟩
  have g3 : (rm == rm') = true := by simpa using k3
  have HC3 := hide k3
  clear k3
  go_enter Tryz.func143, Tryz.ntmps143
  go_wp2_with fail
  refine (HE1.out _ HK.out.1).mono ?_
  rintro e w1 ⟨rfl, hb1⟩
  have HK1 := hide (And.intro (HK.out.1.trans (hb1.mono HK.out.1.size)) (And.intro (HK.out.2.1.below hb1) (HK.out.2.2.below hb1)))
  clear hb1 HK B0
  by_cases k4 : sl = sl'
  rotate_left
  · rw [decide_eq_false k4]
    have HV := hide (show r = false by rw [HR.out]; simp [k4])
    go_wp2
    go_ret
    exact ⟨ret_bool HV.out.symm, HK1.out.1⟩
  rw [decide_eq_true k4]
  have HC4 := hide k4
  clear k4
  obtain ⟨p0, p1, p2, p3, p4, p5⟩ := (HK1.out.2.1).ly6
  obtain ⟨q0, q1, q2, q3, q4, q5⟩ := (HK1.out.2.2).ly6
  go_wp2_with fail
  refine (HE2.out _ HK1.out.1).mono ?_
  rintro e w2 ⟨rfl, hb2⟩
  have HK2 := hide (And.intro (HK1.out.1.trans (hb2.mono HK1.out.1.size)) (And.intro (HK1.out.2.1.below hb2) (HK1.out.2.2.below hb2)))
  clear hb2 p0 p1 p2 p3 p4 p5 q0 q1 q2 q3 q4 q5
  by_cases k5 : pl = pl'
  rotate_left
  · rw [decide_eq_false k5]
    have HV := hide (show r = false by rw [HR.out]; simp [k5])
    go_wp2
    go_ret
    exact ⟨ret_bool HV.out.symm, HK2.out.1⟩
  rw [decide_eq_true k5]
  have HC5 := hide k5
  clear k5
  obtain ⟨p0, p1, p2, p3, p4, p5⟩ := (HK2.out.2.1).ly6
  obtain ⟨q0, q1, q2, q3, q4, q5⟩ := (HK2.out.2.2).ly6
  go_wp2_with fail
  refine (HE3.out _ HK2.out.1).mono ?_
  rintro e w3 ⟨rfl, hb3⟩
  have HB3 := hide (HK2.out.1.trans (hb3.mono HK2.out.1.size))
  have HV := hide (show decide (tg = tg') = r by rw [HR.out]; simp [HC1.out, HC2.out, HC3.out, HC4.out, HC5.out])
  rw [HV.out]
  clear hb3 p0 p1 p2 p3 p4 p5 q0 q1 q2 q3 q4 q5 HR
  cases r
  all_goals
    go_wp2
    go_ret
    exact ⟨rfl, HB3.out⟩
end Go.Proofs.YtngdgogjlpjjpaeGreat
