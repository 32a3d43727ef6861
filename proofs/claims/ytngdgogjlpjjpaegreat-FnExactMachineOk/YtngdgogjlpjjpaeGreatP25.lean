import Derived.Test.YtngdgogjlpjjpaeGreatP01
import Derived.Test.YtngdgogjlpjjpaeGreatP03
import Derived.Test.YtngdgogjlpjjpaeGreatP24
namespace Go.Proofs.YtngdgogjlpjjpaeGreat
open Go.RowKit Classical
set_option linter.unusedVariables false
set_option linter.unusedSimpArgs false
set_option maxRecDepth 100000
set_option maxHeartbeats 4000000 in
theorem SameLayout_any (L : Lay) (a0 : Option Addr) (c0 : Nat) (xs : List PB) (a2 : Option Addr) (c2 : Nat) (a5 : Option Addr) (c5 : Nat) (ts : List TB) (L' : Lay) (a0' : Option Addr) (c0' : Nat) (xs' : List PB) (a2' : Option Addr) (c2' : Nat) (a5' : Option Addr) (c5' : Nat) (ts' : List TB) (w : World) (h : LyT w L a0 c0 xs a2 c2 a5 c5 ts) (h' : LyT w L' a0' c0' xs' a2' c2' a5' c5' ts') :
    Calls Tryz.prog 132 #[.agg #[.slice a0 xs.length c0, .int .i64 L.stack, .slice a2 L.slots.length c2, .int .i64 L.flash, .int .i64 L.ram, .slice a5 ts.length c5], .agg #[.slice a0' xs'.length c0', .int .i64 L'.stack, .slice a2' L'.slots.length c2', .int .i64 L'.flash, .int .i64 L'.ram, .slice a5' ts'.length c5']] w fun e w' => e = .returned (.bool (decide (L = L'))) ∧ Below w.heap.size w w' := by
  have hps := h.ps
  have hps' := h'.ps
  have htt := h.tt
  have htt' := h'.tt
  have HE1 := hide (fun (W : World) (hb : Below w.heap.size w W) => l5SameNums_any a2 a2' L.slots.length c2 L'.slots.length c2' L.slots L'.slots W (h.s.below hb) (h'.s.below hb))
  have HE2 := hide (fun (W : World) (hb : Below w.heap.size w W) => l5SamePlaces_any a0 xs.length c0 xs L.stack a2 L.slots.length c2 L.flash L.ram a5 ts.length c5 ts a0' xs'.length c0' xs' L'.stack a2' L'.slots.length c2' L'.flash L'.ram a5' ts'.length c5' ts' W (h.p.below hb) (h.t.below hb) (h'.p.below hb) (h'.t.below hb))
  rw [hps, hps', htt, htt'] at HE2
  clear h h' hps hps' htt htt'
  obtain ⟨pl, st, sl, fl, rm, tg⟩ := L
  obtain ⟨pl', st', sl', fl', rm', tg'⟩ := L'
  dsimp only at HE1 HE2 ⊢
  obtain ⟨r, hr⟩ : ∃ r, r = decide ((⟨pl, st, sl, fl, rm, tg⟩ : Lay) = ⟨pl', st', sl', fl', rm', tg'⟩) := ⟨_, rfl⟩
  rw [← hr]
  simp only [Lay.mk.injEq] at hr
  have HR := hide hr
  clear hr
  have B0 : Below w.heap.size w ((w.alloc (.cells #[.slice a0 xs.length c0, .int .i64 st, .slice a2 sl.length c2, .int .i64 fl, .int .i64 rm, .slice a5 ts.length c5] 36)).alloc (.cells #[.slice a0' xs'.length c0', .int .i64 st', .slice a2' sl'.length c2', .int .i64 fl', .int .i64 rm', .slice a5' ts'.length c5'] 36)) := ((Below.refl _ _).alloc (Nat.le_refl _) _).alloc (by simp) _
  have u := (Blk.new w #[.slice a0 xs.length c0, .int .i64 st, .slice a2 sl.length c2, .int .i64 fl, .int .i64 rm, .slice a5 ts.length c5] 36).alloc (.cells #[.slice a0' xs'.length c0', .int .i64 st', .slice a2' sl'.length c2', .int .i64 fl', .int .i64 rm', .slice a5' ts'.length c5'] 36)
  have v := Blk.new (w.alloc (.cells #[.slice a0 xs.length c0, .int .i64 st, .slice a2 sl.length c2, .int .i64 fl, .int .i64 rm, .slice a5 ts.length c5] 36)) #[.slice a0' xs'.length c0', .int .i64 st', .slice a2' sl'.length c2', .int .i64 fl', .int .i64 rm', .slice a5' ts'.length c5'] 36
  simp only [World.size_alloc] at v
  have HK := hide (And.intro B0 (And.intro u v))
  clear u v B0
  go_enter Tryz.func132, Tryz.ntmps132
  go_wp2_with fail
  refine (HE2.out _ HK.out.1).mono ?_
  rintro e w1 ⟨rfl, hb1⟩
  have HK1 := hide (And.intro (HK.out.1.trans (hb1.mono HK.out.1.size)) (And.intro (HK.out.2.1.below hb1) (HK.out.2.2.below hb1)))
  clear hb1 HK
  by_cases k0 : pl = pl' ∧ tg = tg'
  rotate_left
  · rw [decide_eq_false k0]
    have HV := hide (show r = false by rw [HR.out, decide_eq_false_iff_not]; exact fun e => k0 ⟨e.1, e.2.2.2.2.2⟩)
    clear HR HE1 HE2
    go_wp2
    go_ret
    exact ⟨ret_bool HV.out.symm, HK1.out.1⟩
  rw [decide_eq_true k0]
  have HC0 := hide k0
  clear k0
  obtain ⟨p0, p1, p2, p3, p4, p5⟩ := (HK1.out.2.1).ly6
  obtain ⟨q0, q1, q2, q3, q4, q5⟩ := (HK1.out.2.2).ly6
  by_cases k1 : st = st'
  rotate_left
  · have g1 : (st == st') = false := by simpa using k1
    have HV := hide (show r = false by rw [HR.out]; simp [k1])
    clear HR HE1 HE2
    go_wp2
    go_ret
    exact ⟨ret_bool HV.out.symm, HK1.out.1⟩
  have g1 : (st == st') = true := by simpa using k1
  have HC1 := hide k1
  clear k1
  go_wp2_with fail
  refine (HE1.out _ HK1.out.1).mono ?_
  rintro e w2 ⟨rfl, hb2⟩
  have HK2 := hide (And.intro (HK1.out.1.trans (hb2.mono HK1.out.1.size)) (And.intro (HK1.out.2.1.below hb2) (HK1.out.2.2.below hb2)))
  clear hb2 p0 p1 p2 p3 p4 p5 q0 q1 q2 q3 q4 q5
  by_cases k4 : sl = sl'
  rotate_left
  · rw [decide_eq_false k4]
    have HV := hide (show r = false by rw [HR.out]; simp [k4])
    clear HR HE1 HE2
    go_wp2
    go_ret
    exact ⟨ret_bool HV.out.symm, HK2.out.1⟩
  rw [decide_eq_true k4]
  have HC4 := hide k4
  clear k4
  obtain ⟨p0, p1, p2, p3, p4, p5⟩ := (HK2.out.2.1).ly6
  obtain ⟨q0, q1, q2, q3, q4, q5⟩ := (HK2.out.2.2).ly6
  by_cases k2 : fl = fl'
  rotate_left
  · have g2 : (fl == fl') = false := by simpa using k2
    have HV := hide (show r = false by rw [HR.out]; simp [k2])
    clear HR HE1 HE2
    go_wp2
    go_ret
    exact ⟨ret_bool HV.out.symm, HK2.out.1⟩
  have g2 : (fl == fl') = true := by simpa using k2
  have HC2 := hide k2
  clear k2
  by_cases k3 : rm = rm'
  rotate_left
  · have g3 : (rm == rm') = false := by simpa using k3
    have HV := hide (show r = false by rw [HR.out]; simp [k3])
    clear HR HE1 HE2
    go_wp2
    go_ret
    exact ⟨ret_bool HV.out.symm, HK2.out.1⟩
  have g3 : (rm == rm') = true := by simpa using k3
  have HV := hide (show r = true by rw [HR.out]; simp [HC0.out.1, HC0.out.2, HC1.out, HC2.out, k3, HC4.out])
  clear HR HE1 HE2 k3
  go_wp2
  go_ret
  exact ⟨ret_bool HV.out.symm, HK2.out.1⟩
end Go.Proofs.YtngdgogjlpjjpaeGreat
namespace Go.Proofs.YtngdgogjlpjjpaeGreat
open Go.RowKit Classical
set_option linter.unusedVariables false
theorem ob_room2 {w : World} {base g n cap m : Nat} {zs : List Int} (h : OB w base (.slice (some ⟨g, 0, none⟩) n cap) zs) (hm : m ≤ n) : Room w g m := by
  obtain ⟨cur, hb, hn⟩ := ob_room h
  exact ⟨cur, hb, by omega⟩
end Go.Proofs.YtngdgogjlpjjpaeGreat
