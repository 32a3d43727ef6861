import Derived.Test.YtngdgogjlpjjpaeGreatP29
import Derived.Test.YtngdgogjlpjjpaeGreatP37
import Derived.Test.YtngdgogjlpjjpaeGreatP38
import Derived.Test.YtngdgogjlpjjpaeGreatP39
import Derived.Test.YtngdgogjlpjjpaeGreatP43
import Derived.Test.YtngdgogjlpjjpaeGreatP44
namespace Go.Proofs.YtngdgogjlpjjpaeGreat
open Go.RowKit Classical
set_option linter.unusedVariables false
set_option linter.unusedSimpArgs false
set_option maxRecDepth 100000
theorem vend_s {W : World} {G : Nat} (k1 : Blk W G zL 36) (v0 v1 v2 v3 v4 v5 : Value) (b : Bool) (Q : Ending → World → Prop) (tmps : Array Value) (h2 : tmps[2]? = some (.pointer (some ⟨G, 0, none⟩))) (h3 : tmps[3]? = some (.bool b)) (hQ : Q (.returned (.tuple #[.agg #[v0, v1, v2, v3, v4, v5], .bool b])) (st6 W G v0 v1 v2 v3 v4 v5)) :
    bodyPost Tryz.prog Tryz.f121 Q Exit.ret ⟨tmps, []⟩ (st6 W G v0 v1 v2 v3 v4 v5) := by
  have k := blk_st6 k1 v0 v1 v2 v3 v4 v5
  have t0 : (st6 W G v0 v1 v2 v3 v4 v5).cell? ⟨G, 0, none⟩ = some v0 := k.cell 0
  have t1 : (st6 W G v0 v1 v2 v3 v4 v5).cell? ⟨G, 1, none⟩ = some v1 := k.cell 1
  have t2 : (st6 W G v0 v1 v2 v3 v4 v5).cell? ⟨G, 2, none⟩ = some v2 := k.cell 2
  have t3 : (st6 W G v0 v1 v2 v3 v4 v5).cell? ⟨G, 3, none⟩ = some v3 := k.cell 3
  have t4 : (st6 W G v0 v1 v2 v3 v4 v5).cell? ⟨G, 4, none⟩ = some v4 := k.cell 4
  have t5 : (st6 W G v0 v1 v2 v3 v4 v5).cell? ⟨G, 5, none⟩ = some v5 := k.cell 5
  refine bodyPost_ret_by (v := .tuple #[.agg #[v0, v1, v2, v3, v4, v5], .bool b]) ?_ rfl hQ
  simp [results, Tryz.results121, go_sem, h2, h3, t0, t1, t2, t3, t4, t5]
set_option maxHeartbeats 64000000 in
theorem l7Ok_any (M : Mn) (w : World) (h : MnD w M) : Calls Tryz.prog 121 #[.agg #[.slice M.ma M.mn M.mc, .int .i64 M.cs, .int .i64 M.cw, .int .i64 M.ck, .int .i64 M.cd, .int .i64 M.pc, .slice M.ka M.kn M.kc, .slice M.fa M.fn M.fc, .slice M.ra M.rn M.rc, .slice M.oa M.on M.oc, .int .i64 M.md, .int .i64 M.bk, .slice M.la M.ln M.lc, .slice M.ha M.hn M.hc, .int .i64 M.tn]] w (VlP w M) := by
  obtain ⟨U, hU⟩ : ∃ U, U = w.alloc (.cells #[.slice M.ma M.mn M.mc, .int .i64 M.cs, .int .i64 M.cw, .int .i64 M.ck, .int .i64 M.cd, .int .i64 M.pc, .slice M.ka M.kn M.kc, .slice M.fa M.fn M.fc, .slice M.ra M.rn M.rc, .slice M.oa M.on M.oc, .int .i64 M.md, .int .i64 M.bk, .slice M.la M.ln M.lc, .slice M.ha M.hn M.hc, .int .i64 M.tn] 54) := ⟨_, rfl⟩
  have bU : Below w.heap.size w U := by rw [hU]; exact (Below.refl _ _).alloc (Nat.le_refl _) _
  have kU : Blk U w.heap.size #[.slice M.ma M.mn M.mc, .int .i64 M.cs, .int .i64 M.cw, .int .i64 M.ck, .int .i64 M.cd, .int .i64 M.pc, .slice M.ka M.kn M.kc, .slice M.fa M.fn M.fc, .slice M.ra M.rn M.rc, .slice M.oa M.on M.oc, .int .i64 M.md, .int .i64 M.bk, .slice M.la M.ln M.lc, .slice M.ha M.hn M.hc, .int .i64 M.tn] 54 := by rw [hU]; exact Blk.new _ _ _
  obtain ⟨V, hV⟩ : ∃ V, V = U.alloc (.cells #[.slice none 0 0, .int .i64 0, .slice none 0 0, .int .i64 0, .int .i64 0, .slice none 0 0] 36) := ⟨_, rfl⟩
  have bV : Below U.heap.size U V := by rw [hV]; exact (Below.refl _ _).alloc (Nat.le_refl _) _
  have kV : Blk V U.heap.size #[.slice none 0 0, .int .i64 0, .slice none 0 0, .int .i64 0, .int .i64 0, .slice none 0 0] 36 := by rw [hV]; exact Blk.new _ _ _
  have BV := bU.trans (bV.mono bU.size)
  have kU' := kU.below bV
  have hUs : w.heap.size ≤ U.heap.size := bU.size
  have hUV : U.heap.size < V.heap.size := kV.lt
  obtain ⟨L, hL⟩ : ∃ L, L = M.L := ⟨_, rfl⟩
  have HLB := hide (show LayB L from by rw [hL]; exact layB_lk _ _ _ _ _)
  have HLV := hide (show wfi L.stack ∧ wfi L.flash ∧ wfi L.ram from by rw [hL]; exact lkL_v _ _ _ _ _)
  have HLK := hide (show Calls Tryz.prog 72 #[.slice M.ma M.mn M.mc, .agg #[.int .i64 M.cs, .int .i64 M.cw, .int .i64 M.ck, .int .i64 M.cd]] V (fun e w' => Below V.heap.size V w' ∧ ∃ a0 c0 xs a2 c2 a5 c5 ts, e = .returned (.tuple #[.agg #[.slice a0 xs.length c0, .int .i64 L.stack, .slice a2 L.slots.length c2, .int .i64 L.flash, .int .i64 L.ram, .slice a5 ts.length c5], .int .i64 (lkc (pmS M.ms) M.cs M.cw M.ck M.cd)]) ∧ LayO w' V.heap.size L a0 c0 xs a2 c2 a5 c5 ts) from by
    have := sLink_any M.ma M.mn M.mc M.ms M.cs M.cw M.ck M.cd V (h.m.below BV)
    unfold LkM layV at this
    rw [show lkL (pmS M.ms) M.cs M.cw M.ck M.cd = L from hL.symm] at this
    exact this)
  have HLO := hide (fun (e : lkc (pmS M.ms) M.cs M.cw M.ck M.cd = 0) => show Lok (pmS M.ms) L from by
    have := lok_lk e
    rw [hL]
    unfold Mn.L lkL
    rw [if_pos e]
    exact this)
  have HDV := hide (h.below BV)
  have HU := hide hU
  have HV := hide hV
  have HB := hide BV
  have HEL := hide hL
  have HUS := hide (And.intro hUs hUV)
  have HWU := hide (show w.heap.size < U.heap.size from kU.lt)
  have HK := hide (fun (X : World) (hX : Below V.heap.size V X) => And.intro (kU'.below hX) (kV.below hX))
  have HEN := hide (fun (X : World) (hX : Below V.heap.size V X) (v0 v1 v2 v3 v4 v5 : Value) => show Below w.heap.size w (st6 X U.heap.size v0 v1 v2 v3 v4 v5) from below_turn (BV.trans (hX.mono BV.size)) (turn_st6 _ _ _ _ _ _ _ _) (fun j hj => by have e : j = U.heap.size := hj; omega) (by have h1 := BV.size; have h2 := hX.size; omega))
  obtain ⟨m0, m1, m2, m3, m4, m5, m6, m7, m8, m9, m10, m11, m12, m13, m14⟩ := kU'.mc
  clear hU hV bU bV kU kU' kV BV h hL hUs hUV
  generalize hC : lkc (pmS M.ms) M.cs M.cw M.ck M.cd = C at *
  have HCE := hide hC
  clear hC
  go_enter Tryz.func121, Tryz.ntmps121
  go_wp2_with (first | rw [← HU.out] | rw [← HV.out])
  refine HLK.out.mono ?_
  rintro e X1 ⟨hb1, a0, c0, xs, a2, c2, a5, c5, ts, rfl, O⟩
  obtain ⟨W, hW⟩ : ∃ W, W = X1.alloc (.cells #[.slice a0 xs.length c0, .int .i64 L.stack, .slice a2 L.slots.length c2, .int .i64 L.flash, .int .i64 L.ram, .slice a5 ts.length c5] 36) := ⟨_, rfl⟩
  have bW : Below X1.heap.size X1 W := by rw [hW]; exact (Below.refl _ _).alloc (Nat.le_refl _) _
  have kW : Blk W X1.heap.size #[.slice a0 xs.length c0, .int .i64 L.stack, .slice a2 L.slots.length c2, .int .i64 L.flash, .int .i64 L.ram, .slice a5 ts.length c5] 36 := by rw [hW]; exact Blk.new _ _ _
  have BW := hb1.trans (bW.mono hb1.size)
  have HW := hide hW
  have HBW := hide BW
  have OW := O.below' bW
  have HOW := hide OW
  have HLT := hide (OW.lyt HLB.out.r HLV.out)
  have HXU := hide (show U.heap.size < X1.heap.size from by have h1 := HUS.out.2; have h2 := hb1.size; omega)
  have HC := hide (fun (X : World) (hX : Below W.heap.size W X) => And.intro ((HK.out X (BW.trans (hX.mono BW.size))).1) (And.intro ((HK.out X (BW.trans (hX.mono BW.size))).2) (kW.below hX)))
  have HVX := hide (fun (X : World) (hX : Below W.heap.size W X) => BW.trans (hX.mono BW.size))
  clear m0 m1 m2 m3 m4 m5 m6 m7 m8 m9 m10 m11 m12 m13 m14 HU HV HLK hW bW kW BW OW O hb1 HK
  obtain ⟨m0, m1, m2, m3, m4, m5, m6, m7, m8, m9, m10, m11, m12, m13, m14⟩ := (HC.out W (Below.refl _ _)).1.mc
  obtain ⟨l0, l1, l2, l3, l4, l5⟩ := (HC.out W (Below.refl _ _)).2.2.ly6
  by_cases c0' : ¬ C = 0
  · have c0'' : (C != 0) = true := by simp [c0']
    have HN := hide (show ¬ MOk M from fun q => c0' (by rw [← HCE.out]; exact q.l))
    clear c0'
    obtain ⟨r0, r1, r2, r3, r4, r5⟩ := (HC.out W (Below.refl _ _)).2.1.ly6
    have rf := (HC.out W (Below.refl _ _)).2.1.frozen
    have k1 := (HC.out W (Below.refl _ _)).2.1
    have hEN := HEN.out W HBW.out
    go_wp2_with (rw [← HW.out])
    exact vend_s k1 (.slice a0 xs.length c0) (.int .i64 L.stack) (.slice a2 L.slots.length c2) (.int .i64 L.flash) (.int .i64 L.ram) (.slice a5 ts.length c5) false _ _ rfl rfl (vl_no (hEN _ _ _ _ _ _) HN.out)
  replace c0' : C = 0 := Classical.not_not.1 c0'
  have c0'' : (C != 0) = false := by simp [c0']
  have HE0 := hide (show lkc (pmS M.ms) M.cs M.cw M.ck M.cd = 0 from by rw [HCE.out]; exact c0')
  have HL0 := hide (HLO.out (by rw [← HCE.out]; exact HE0.out))
  have HX0 := hide c0'
  clear c0' HLO
  obtain ⟨b0, hb0⟩ := bool_of (FitP (pmS M.ms) L)
  have HPF := hide (fun (X : World) (hX : Below W.heap.size W X) => (sFits_any M.ma M.mn M.mc M.ms L a0 c0 xs a2 c2 a5 c5 ts X ((HDV.out.m.below HBW.out).below hX) (HLT.out.below hX)).mono (fun e w' he => show e = .returned (.bool b0) ∧ Below X.heap.size X w' from by
    obtain ⟨r, h1, h2, h3⟩ := he
    have : r = b0 := by rw [Bool.eq_iff_iff, h2, hb0]
    exact ⟨by rw [h1, this], h3⟩))
  have HCO := hide (fun (X : World) (hX : Below W.heap.size W X) => l3CoreOk_any M.pc M.ka M.kn M.kc M.kz X ((HDV.out.k.below HBW.out).below hX))
  have HMO := hide (fun (X : World) (hX : Below W.heap.size W X) => sMemOk_any M.fa M.ra M.oa M.fn M.fc M.rn M.rc M.on M.oc X)
  have HIM := hide (fun (X : World) (hX : Below W.heap.size W X) => show Calls Tryz.prog 22 #[.slice M.ma M.mn M.mc, .agg #[.slice a0 xs.length c0, .int .i64 L.stack, .slice a2 L.slots.length c2, .int .i64 L.flash, .int .i64 L.ram, .slice a5 ts.length c5]] X (fun e w' => Below X.heap.size X w' ∧ ∃ b1 n1 d1 b2 n2 d2 b3 n3 d3, e = .returned (.tuple #[.agg #[.slice b1 n1 d1, .slice b2 n2 d2, .slice b3 n3 d3], .bool true]) ∧ BS w' b1 n1 d1 (imF (pmS M.ms) L)) from by
    have := sImage_any M.ma M.mn M.mc M.ms L a0 c0 xs a2 c2 a5 c5 ts X ((HDV.out.m.below HBW.out).below hX) (HLT.out.below hX)
    unfold ImM at this
    rw [decide_eq_true HL0.out] at this
    exact this.mono (fun e w' ⟨h1, b1, n1, d1, b2, n2, d2, b3, n3, d3, h2, h3⟩ => ⟨h1, b1, n1, d1, b2, n2, d2, b3, n3, d3, h2, h3.o1.bs⟩))
  have HLF := hide (fun (X : World) (hX : Below W.heap.size W X) => (HDV.out.f.below HBW.out).below hX)
  have HTH := hide (fun (X : World) (hX : Below W.heap.size W X) => l6There_any M.ma M.mn M.mc M.ms M.md M.bk X (((HDV.out.m.below HBW.out).below hX).s))
  rw [pcm_pcq HDV.out.m M.md M.bk] at HTH
  obtain ⟨b3', hb3⟩ := bool_of (slsOk (pmS M.ms) L M.cs M.cw M.tn M.rz M.lz ∧ (M.cs = 0 ∨ M.bk = -1 ∨ hld M.lz M.md M.bk ≠ -1))
  have HSL := hide (fun (hr : (M.rn : Int) = L.ram) (X : World) (hX : Below W.heap.size W X) => (l7SlotsOk_any M L a0 c0 xs a2 c2 a5 c5 ts X ((HDV.out.below HBW.out).below hX) (HLT.out.below hX) HEL.out HE0.out hr).mono (fun e w' he => yn_is he b3' hb3))
  obtain ⟨b5, hb5⟩ := bool_of (frsOk (pmS M.ms) M.cd M.hz)
  have HSH := hide (fun (X : World) (hX : Below W.heap.size W X) => (l7FramesOk_any M X ((HDV.out.below HBW.out).below hX)).mono (fun e w' he => yn_is he b5 hb5))
  obtain ⟨b1', hb1⟩ : ∃ b : Bool, b = cok M.pc M.kn M.kz := ⟨_, rfl⟩
  rw [← hb1] at HCO
  obtain ⟨b2', hb2⟩ : ∃ b : Bool, b = mok M.fn M.rn M.on := ⟨_, rfl⟩
  rw [← hb2] at HMO
  obtain ⟨b4', hb4⟩ : ∃ b : Bool, b = decide (0 ≤ pcq (pmS M.ms) M.md M.bk) := ⟨_, rfl⟩
  rw [← hb4] at HTH
  have HF0 := hide (fun (e : b0 = false) => show ¬ MOk M from fun q => by have := hb0.2 (by rw [HEL.out]; exact q.p); rw [e] at this; cases this)
  have HF1 := hide (fun (e : b1' = false) => show ¬ MOk M from fun q => by have := q.c; rw [← hb1, e] at this; cases this)
  have HF2 := hide (fun (e : b2' = false) => show ¬ MOk M from fun q => by have := q.b; rw [← hb2, e] at this; cases this)
  have HF3 := hide (fun (e : b3' = false) => show ¬ MOk M from fun q => by have := hb3.2 ⟨by rw [HEL.out]; exact q.s, q.n.2⟩; rw [e] at this; cases this)
  have HF4 := hide (fun (e : b4' = false) => show ¬ MOk M from fun q => by rw [e] at hb4; exact absurd q.n.1 (of_decide_eq_false hb4.symm))
  have HF5 := hide (fun (e : b5 = false) => show ¬ MOk M from fun q => by have := hb5.2 q.h; rw [e] at this; cases this)
  have HF6 := hide (fun (e : ¬ imF (pmS M.ms) L = M.fz) => show ¬ MOk M from fun q => e (by rw [HEL.out]; exact q.f))
  have HF7 := hide (fun (e : ¬ (M.rn : Int) = L.ram) => show ¬ MOk M from fun q => e (by rw [HEL.out]; exact q.r))
  have HF8 := hide (fun (e : ¬ (0 ≤ M.tn ∧ M.tn ≤ 1000000000)) => show ¬ MOk M from fun q => e q.t)
  have HYY := hide (fun (e0 : b0 = true) (e1 : b1' = true) (e2 : b2' = true) (e6 : imF (pmS M.ms) L = M.fz) (e7 : (M.rn : Int) = L.ram) (et : 0 ≤ M.tn ∧ M.tn ≤ 1000000000) (e4 : b4' = true) (e3 : b3' = true) (e5 : b5 = true) => show MOk M from
    ⟨HE0.out, by have := hb0.1 e0; rw [HEL.out] at this; exact this, by rw [← hb1, e1], by rw [← hb2, e2], by rw [HEL.out] at e6; exact e6, by rw [HEL.out] at e7; exact e7, et, by have := (hb3.1 e3).1; rw [HEL.out] at this; exact this, ⟨by rw [e4] at hb4; exact of_decide_eq_true hb4.symm, (hb3.1 e3).2⟩, hb5.1 e5⟩)
  have HSX := hide (fun (X : World) (hX : Below W.heap.size W X) (v0 v1 v2 v3 v4 v5 : Value) => show Blk (st6 X U.heap.size v0 v1 v2 v3 v4 v5) w.heap.size #[.slice M.ma M.mn M.mc, .int .i64 M.cs, .int .i64 M.cw, .int .i64 M.ck, .int .i64 M.cd, .int .i64 M.pc, .slice M.ka M.kn M.kc, .slice M.fa M.fn M.fc, .slice M.ra M.rn M.rc, .slice M.oa M.on M.oc, .int .i64 M.md, .int .i64 M.bk, .slice M.la M.ln M.lc, .slice M.ha M.hn M.hc, .int .i64 M.tn] 54 ∧ Blk (st6 X U.heap.size v0 v1 v2 v3 v4 v5) X1.heap.size #[.slice a0 xs.length c0, .int .i64 L.stack, .slice a2 L.slots.length c2, .int .i64 L.flash, .int .i64 L.ram, .slice a5 ts.length c5] 36 from
    ⟨turn_blk (turn_st6 _ _ _ _ _ _ _ _) (HC.out X hX).1 (fun e => by have e' : w.heap.size = U.heap.size := e; have := HWU.out; omega), turn_blk (turn_st6 _ _ _ _ _ _ _ _) (HC.out X hX).2.2 (fun e => by have e' : X1.heap.size = U.heap.size := e; have := HXU.out; omega)⟩)
  clear hb0 hb1 hb2 hb3 hb4 hb5 HDV HCE
  go_wp2_with (rw [← HW.out])
  refine (HPF.out W (Below.refl _ _)).mono ?_
  rintro e Y0 ⟨rfl, hb⟩
  have HY0 := hide hb
  clear hb HW m0 m1 m2 m3 m4 m5 m6 m7 m8 m9 m10 m11 m12 m13 m14 l0 l1 l2 l3 l4 l5
  obtain ⟨m0, m1, m2, m3, m4, m5, m6, m7, m8, m9, m10, m11, m12, m13, m14⟩ := (HC.out Y0 HY0.out).1.mc
  obtain ⟨l0, l1, l2, l3, l4, l5⟩ := (HC.out Y0 HY0.out).2.2.ly6
  obtain ⟨r0, r1, r2, r3, r4, r5⟩ := (HC.out Y0 HY0.out).2.1.ly6
  have rf := (HC.out Y0 HY0.out).2.1.frozen
  cases b0 with
  | false =>
    have HN := hide (HF0.out (by simp))
    have k1 := (HC.out Y0 HY0.out).2.1
    have hEN := HEN.out Y0 (HVX.out Y0 HY0.out)
    go_wp2
    exact vend_s k1 (.slice a0 xs.length c0) (.int .i64 L.stack) (.slice a2 L.slots.length c2) (.int .i64 L.flash) (.int .i64 L.ram) (.slice a5 ts.length c5) false _ _ rfl rfl (vl_no (hEN _ _ _ _ _ _) HN.out)
  | true =>
  go_wp2_with fail
  refine (HCO.out _ HY0.out).mono ?_
  rintro e Y1 ⟨rfl, hb⟩
  have HY1 := hide (HY0.out.trans (hb.mono HY0.out.size))
  clear hb m0 m1 m2 m3 m4 m5 m6 m7 m8 m9 m10 m11 m12 m13 m14 l0 l1 l2 l3 l4 l5 r0 r1 r2 r3 r4 r5 rf
  obtain ⟨m0, m1, m2, m3, m4, m5, m6, m7, m8, m9, m10, m11, m12, m13, m14⟩ := (HC.out Y1 HY1.out).1.mc
  obtain ⟨l0, l1, l2, l3, l4, l5⟩ := (HC.out Y1 HY1.out).2.2.ly6
  obtain ⟨r0, r1, r2, r3, r4, r5⟩ := (HC.out Y1 HY1.out).2.1.ly6
  have rf := (HC.out Y1 HY1.out).2.1.frozen
  cases b1' with
  | false =>
    have HN := hide (HF1.out (by simp))
    have k1 := (HC.out Y1 HY1.out).2.1
    have hEN := HEN.out Y1 (HVX.out Y1 HY1.out)
    go_wp2
    exact vend_s k1 (.slice a0 xs.length c0) (.int .i64 L.stack) (.slice a2 L.slots.length c2) (.int .i64 L.flash) (.int .i64 L.ram) (.slice a5 ts.length c5) false _ _ rfl rfl (vl_no (hEN _ _ _ _ _ _) HN.out)
  | true =>
  go_wp2_with fail
  refine (HMO.out _ HY1.out).mono ?_
  rintro e Y2 ⟨rfl, hb⟩
  have HY2 := hide (HY1.out.trans (hb.mono HY1.out.size))
  clear hb m0 m1 m2 m3 m4 m5 m6 m7 m8 m9 m10 m11 m12 m13 m14 l0 l1 l2 l3 l4 l5 r0 r1 r2 r3 r4 r5 rf
  obtain ⟨m0, m1, m2, m3, m4, m5, m6, m7, m8, m9, m10, m11, m12, m13, m14⟩ := (HC.out Y2 HY2.out).1.mc
  obtain ⟨l0, l1, l2, l3, l4, l5⟩ := (HC.out Y2 HY2.out).2.2.ly6
  obtain ⟨r0, r1, r2, r3, r4, r5⟩ := (HC.out Y2 HY2.out).2.1.ly6
  have rf := (HC.out Y2 HY2.out).2.1.frozen
  cases b2' with
  | false =>
    have HN := hide (HF2.out (by simp))
    have k1 := (HC.out Y2 HY2.out).2.1
    have hEN := HEN.out Y2 (HVX.out Y2 HY2.out)
    go_wp2
    exact vend_s k1 (.slice a0 xs.length c0) (.int .i64 L.stack) (.slice a2 L.slots.length c2) (.int .i64 L.flash) (.int .i64 L.ram) (.slice a5 ts.length c5) false _ _ rfl rfl (vl_no (hEN _ _ _ _ _ _) HN.out)
  | true =>
  go_wp2_with fail
  refine (HIM.out _ HY2.out).mono ?_
  rintro e Y3 ⟨hb, b1, n1, d1, b2, n2, d2, b3, n3, d3, rfl, hbs⟩
  have HY3 := hide (HY2.out.trans (hb.mono HY2.out.size))
  obtain ⟨Wi, hWi⟩ : ∃ Wi, Wi = Y3.alloc (.cells #[.slice b1 n1 d1, .slice b2 n2 d2, .slice b3 n3 d3] 50) := ⟨_, rfl⟩
  have bWi : Below Y3.heap.size Y3 Wi := by rw [hWi]; exact (Below.refl _ _).alloc (Nat.le_refl _) _
  have i0 : Wi.cell? ⟨Y3.heap.size, 0, none⟩ = some (.slice b1 n1 d1) := by
    have : Blk Wi Y3.heap.size #[.slice b1 n1 d1, .slice b2 n2 d2, .slice b3 n3 d3] 50 := by rw [hWi]; exact Blk.new _ _ _
    exact this.cell 0
  have HWi := hide hWi
  have HY4 := hide (HY3.out.trans (bWi.mono HY3.out.size))
  have HLB2 := hide (show Calls Tryz.prog 176 #[.slice b1 n1 d1, .slice M.fa M.fn M.fc] Wi (fun e w' => e = .returned (.bool (decide (imF (pmS M.ms) L = M.fz))) ∧ Below Wi.heap.size Wi w') from l7Bytes_any _ _ _ _ _ _ _ _ Wi (hbs.below bWi) (HLF.out Wi HY4.out))
  clear hb hbs hWi bWi m0 m1 m2 m3 m4 m5 m6 m7 m8 m9 m10 m11 m12 m13 m14 l0 l1 l2 l3 l4 l5 r0 r1 r2 r3 r4 r5 rf
  obtain ⟨m0, m1, m2, m3, m4, m5, m6, m7, m8, m9, m10, m11, m12, m13, m14⟩ := (HC.out Wi HY4.out).1.mc
  obtain ⟨l0, l1, l2, l3, l4, l5⟩ := (HC.out Wi HY4.out).2.2.ly6
  obtain ⟨r0, r1, r2, r3, r4, r5⟩ := (HC.out Wi HY4.out).2.1.ly6
  have rf := (HC.out Wi HY4.out).2.1.frozen
  by_cases c6 : ¬ imF (pmS M.ms) L = M.fz
  · rw [decide_eq_false c6] at HLB2
    have HN := hide (HF6.out c6)
    clear c6
    go_wp2_with (rw [← HWi.out])
    refine HLB2.out.mono ?_
    rintro e Y5 ⟨rfl, hb⟩
    have HY5 := hide (HY4.out.trans (hb.mono HY4.out.size))
    clear hb m0 m1 m2 m3 m4 m5 m6 m7 m8 m9 m10 m11 m12 m13 m14 l0 l1 l2 l3 l4 l5 r0 r1 r2 r3 r4 r5 rf
    obtain ⟨m0, m1, m2, m3, m4, m5, m6, m7, m8, m9, m10, m11, m12, m13, m14⟩ := (HC.out Y5 HY5.out).1.mc
    obtain ⟨l0, l1, l2, l3, l4, l5⟩ := (HC.out Y5 HY5.out).2.2.ly6
    obtain ⟨r0, r1, r2, r3, r4, r5⟩ := (HC.out Y5 HY5.out).2.1.ly6
    have rf := (HC.out Y5 HY5.out).2.1.frozen
    have k1 := (HC.out Y5 HY5.out).2.1
    have hEN := HEN.out Y5 (HVX.out Y5 HY5.out)
    go_wp2
    exact vend_s k1 (.slice a0 xs.length c0) (.int .i64 L.stack) (.slice a2 L.slots.length c2) (.int .i64 L.flash) (.int .i64 L.ram) (.slice a5 ts.length c5) false _ _ rfl rfl (vl_no (hEN _ _ _ _ _ _) HN.out)
  replace c6 : imF (pmS M.ms) L = M.fz := Classical.not_not.1 c6
  rw [decide_eq_true c6] at HLB2
  have HC6 := hide c6
  clear c6
  go_wp2_with (rw [← HWi.out])
  refine HLB2.out.mono ?_
  rintro e Y5 ⟨rfl, hb⟩
  have HY5 := hide (HY4.out.trans (hb.mono HY4.out.size))
  clear hb m0 m1 m2 m3 m4 m5 m6 m7 m8 m9 m10 m11 m12 m13 m14 l0 l1 l2 l3 l4 l5 r0 r1 r2 r3 r4 r5 rf i0 HWi
  obtain ⟨m0, m1, m2, m3, m4, m5, m6, m7, m8, m9, m10, m11, m12, m13, m14⟩ := (HC.out Y5 HY5.out).1.mc
  obtain ⟨l0, l1, l2, l3, l4, l5⟩ := (HC.out Y5 HY5.out).2.2.ly6
  obtain ⟨r0, r1, r2, r3, r4, r5⟩ := (HC.out Y5 HY5.out).2.1.ly6
  have rf := (HC.out Y5 HY5.out).2.1.frozen
  by_cases c7 : ¬ (M.rn : Int) = L.ram
  · have c7' : ((M.rn : Int) != L.ram) = true := by simp [c7]
    have HN := hide (HF7.out c7)
    clear c7
    have k1 := (HC.out Y5 HY5.out).2.1
    have hEN := HEN.out Y5 (HVX.out Y5 HY5.out)
    go_wp2
    exact vend_s k1 (.slice a0 xs.length c0) (.int .i64 L.stack) (.slice a2 L.slots.length c2) (.int .i64 L.flash) (.int .i64 L.ram) (.slice a5 ts.length c5) false _ _ rfl rfl (vl_no (hEN _ _ _ _ _ _) HN.out)
  replace c7 : (M.rn : Int) = L.ram := Classical.not_not.1 c7
  have c7' : ((M.rn : Int) != L.ram) = false := by simp [c7]
  have HC7 := hide c7
  clear c7
  by_cases c8 : M.tn < 0
  · have HN := hide (HF8.out (fun q => by omega))
    have k1 := (HC.out Y5 HY5.out).2.1
    have hEN := HEN.out Y5 (HVX.out Y5 HY5.out)
    go_wp2
    exact vend_s k1 (.slice a0 xs.length c0) (.int .i64 L.stack) (.slice a2 L.slots.length c2) (.int .i64 L.flash) (.int .i64 L.ram) (.slice a5 ts.length c5) false _ _ rfl rfl (vl_no (hEN _ _ _ _ _ _) HN.out)
  by_cases c9 : 1000000000 < M.tn
  · have HN := hide (HF8.out (fun q => by omega))
    have k1 := (HC.out Y5 HY5.out).2.1
    have hEN := HEN.out Y5 (HVX.out Y5 HY5.out)
    go_wp2
    exact vend_s k1 (.slice a0 xs.length c0) (.int .i64 L.stack) (.slice a2 L.slots.length c2) (.int .i64 L.flash) (.int .i64 L.ram) (.slice a5 ts.length c5) false _ _ rfl rfl (vl_no (hEN _ _ _ _ _ _) HN.out)
  have HC8 := hide (show 0 ≤ M.tn ∧ M.tn ≤ 1000000000 from by omega)
  go_wp2_with fail
  refine (HTH.out _ HY5.out).mono ?_
  rintro e Y6 ⟨rfl, hb⟩
  have HY6 := hide (HY5.out.trans (hb.mono HY5.out.size))
  clear hb m0 m1 m2 m3 m4 m5 m6 m7 m8 m9 m10 m11 m12 m13 m14 l0 l1 l2 l3 l4 l5 r0 r1 r2 r3 r4 r5 rf
  obtain ⟨m0, m1, m2, m3, m4, m5, m6, m7, m8, m9, m10, m11, m12, m13, m14⟩ := (HC.out Y6 HY6.out).1.mc
  obtain ⟨l0, l1, l2, l3, l4, l5⟩ := (HC.out Y6 HY6.out).2.2.ly6
  obtain ⟨r0, r1, r2, r3, r4, r5⟩ := (HC.out Y6 HY6.out).2.1.ly6
  have rf := (HC.out Y6 HY6.out).2.1.frozen
  cases b4' with
  | false =>
    have HN := hide (HF4.out (by simp))
    have k1 := (HC.out Y6 HY6.out).2.1
    have hEN := HEN.out Y6 (HVX.out Y6 HY6.out)
    go_wp2
    exact vend_s k1 (.slice a0 xs.length c0) (.int .i64 L.stack) (.slice a2 L.slots.length c2) (.int .i64 L.flash) (.int .i64 L.ram) (.slice a5 ts.length c5) false _ _ rfl rfl (vl_no (hEN _ _ _ _ _ _) HN.out)
  | true =>
  have HRR := hide (HSL.out HC7.out)
  clear m0 m1 m2 m3 m4 m5 m6 m7 m8 m9 m10 m11 m12 m13 m14 l0 l1 l2 l3 l4 l5
  go_wp2_with fail
  refine wp_region_held_drew (S := (fun X => Blk X w.heap.size #[.slice M.ma M.mn M.mc, .int .i64 M.cs, .int .i64 M.cw, .int .i64 M.ck, .int .i64 M.cd, .int .i64 M.pc, .slice M.ka M.kn M.kc, .slice M.fa M.fn M.fc, .slice M.ra M.rn M.rc, .slice M.oa M.on M.oc, .int .i64 M.md, .int .i64 M.bk, .slice M.la M.ln M.lc, .slice M.ha M.hn M.hc, .int .i64 M.tn] 54 ∧ Blk X X1.heap.size #[.slice a0 xs.length c0, .int .i64 L.stack, .slice a2 L.slots.length c2, .int .i64 L.flash, .int .i64 L.ram, .slice a5 ts.length c5] 36)) (by kernel_rfl) ?_ (fun hHeld => ?_)
  · exact ⟨(HC.out _ HY6.out.drew).1, (HC.out _ HY6.out.drew).2.2⟩
  refine wpAnyH_take (i := 0) rfl (by kernel_rfl) (by kernel_rfl) (by kernel_rfl) (fun _ _ _ h => h) (Or.inl ⟨by rfl, fun w hSw => ld_ly hSw.2 rfl⟩) (by assumption) ?_
  try simp only [List.getElem_toArray, List.getElem_cons_succ, List.getElem_cons_zero, Act.put, List.setIfInBounds_toArray, List.set_cons_zero, List.set_cons_succ]
  refine wpAnyH_take (i := 1) rfl (by kernel_rfl) (by kernel_rfl) (by kernel_rfl) (fun _ _ _ h => h) (Or.inl ⟨by rfl, fun w hSw => ld_mn hSw.1 rfl⟩) (by assumption) ?_
  try simp only [List.getElem_toArray, List.getElem_cons_succ, List.getElem_cons_zero, Act.put, List.setIfInBounds_toArray, List.set_cons_zero, List.set_cons_succ]
  refine wpAnyH_take (i := 2) rfl (by kernel_rfl) (by kernel_rfl) (by kernel_rfl) (fun _ _ _ h => h) (Or.inl ⟨by rfl, fun w hSw => ld_ly hSw.2 rfl⟩) (by assumption) ?_
  try simp only [List.getElem_toArray, List.getElem_cons_succ, List.getElem_cons_zero, Act.put, List.setIfInBounds_toArray, List.set_cons_zero, List.set_cons_succ]
  refine wpAnyH_ready (rs := [3]) (by kernel_rfl) (by simp) (AllReadyH.cons rfl (fun K hK => ?_) AllReadyH.nil)
  go_simp
  refine (HRR.out _ HY6.out.drew).mono ?_
  rintro e Y7 ⟨rfl, hb⟩
  have HY7 := hide (HY6.out.drew.trans (hb.mono HY6.out.drew.size))
  clear hb
  try go_wp2_with fail
  refine hK.out _ _ ?_ (fun hHeld => ?_)
  · exact ⟨(HC.out _ HY7.out).1, (HC.out _ HY7.out).2.2⟩
  clear hK K
  try simp only [List.getElem_toArray, List.getElem_cons_succ, List.getElem_cons_zero, Act.put, List.setIfInBounds_toArray, List.set_cons_zero, List.set_cons_succ]
  refine wpAnyH_take (i := 4) (v := ?_) rfl (by kernel_rfl) (by kernel_rfl) (by kernel_rfl) (fun _ _ _ h => h) (Or.inl ⟨by rfl, ?_⟩) (by assumption) ?_
  rotate_left
  · (intro w hSw; (try dsimp only at hSw); go_simp; try with_reducible rfl)
  try simp only [List.getElem_toArray, List.getElem_cons_succ, List.getElem_cons_zero, Act.put, List.setIfInBounds_toArray, List.set_cons_zero, List.set_cons_succ]
  clear r0 r1 r2 r3 r4 r5 rf
  cases b3' with
  | false =>
    have HN := hide (HF3.out (by simp))
    obtain ⟨r0, r1, r2, r3, r4, r5⟩ := (HC.out Y7 HY7.out).2.1.ly6
    have rf := (HC.out Y7 HY7.out).2.1.frozen
    refine wpAnyH_take (i := 5) (v := undef) rfl (by kernel_rfl) (by kernel_rfl) (by kernel_rfl) (fun _ _ _ h => h) (Or.inr ⟨by rfl, rfl⟩) (by assumption) ?_
    try simp only [List.getElem_toArray, List.getElem_cons_succ, List.getElem_cons_zero, Act.put, List.setIfInBounds_toArray, List.set_cons_zero, List.set_cons_succ]
    refine wpAnyH_take (i := 6) (v := undef) rfl (by kernel_rfl) (by kernel_rfl) (by kernel_rfl) (fun _ _ _ h => h) (Or.inr ⟨by rfl, rfl⟩) (by assumption) ?_
    try simp only [List.getElem_toArray, List.getElem_cons_succ, List.getElem_cons_zero, Act.put, List.setIfInBounds_toArray, List.set_cons_zero, List.set_cons_succ]
    refine wpAnyH_take (i := 7) (v := ?_) rfl (by kernel_rfl) (by kernel_rfl) (by kernel_rfl) (fun _ _ _ h => h) (Or.inl ⟨by rfl, ?_⟩) (by assumption) ?_
    rotate_left
    · (intro w hSw; (try dsimp only at hSw); go_simp; try with_reducible rfl)
    try simp only [List.getElem_toArray, List.getElem_cons_succ, List.getElem_cons_zero, Act.put, List.setIfInBounds_toArray, List.set_cons_zero, List.set_cons_succ]
    refine wpAnyH_ready (rs := [8]) (by kernel_rfl) (by simp) (AllReadyH.cons rfl (fun K hK => ?_) AllReadyH.nil)
    go_simp
    try go_wp2_with fail
    refine hK.out _ _ ?_ (fun hHeld => ?_)
    · exact HSX.out _ HY7.out _ _ _ _ _ _
    clear hK K
    try simp only [List.getElem_toArray, List.getElem_cons_succ, List.getElem_cons_zero, Act.put, List.setIfInBounds_toArray, List.set_cons_zero, List.set_cons_succ]
    refine wpAnyH_take (i := 9) (v := ?_) rfl (by kernel_rfl) (by kernel_rfl) (by kernel_rfl) (fun _ _ _ h => h) (Or.inl ⟨by rfl, ?_⟩) (by assumption) ?_
    rotate_left
    · (intro w hSw; (try dsimp only at hSw); go_simp; try with_reducible rfl)
    try simp only [List.getElem_toArray, List.getElem_cons_succ, List.getElem_cons_zero, Act.put, List.setIfInBounds_toArray, List.set_cons_zero, List.set_cons_succ]
    refine wpAnyH_done (by kernel_rfl) ?_ _
    have k1 := (HC.out Y7 HY7.out).2.1
    have hEN := HEN.out Y7 (HVX.out Y7 HY7.out)
    go_wp2
    exact vend_s k1 (.slice a0 xs.length c0) (.int .i64 L.stack) (.slice a2 L.slots.length c2) (.int .i64 L.flash) (.int .i64 L.ram) (.slice a5 ts.length c5) false _ _ rfl rfl (vl_no (hEN _ _ _ _ _ _) HN.out)
  | true =>
    refine wpAnyH_take (i := 5) rfl (by kernel_rfl) (by kernel_rfl) (by kernel_rfl) (fun _ _ _ h => h) (Or.inl ⟨by rfl, fun w hSw => ld_mn hSw.1 rfl⟩) (by assumption) ?_
    try simp only [List.getElem_toArray, List.getElem_cons_succ, List.getElem_cons_zero, Act.put, List.setIfInBounds_toArray, List.set_cons_zero, List.set_cons_succ]
    refine wpAnyH_ready (rs := [6]) (by kernel_rfl) (by simp) (AllReadyH.cons rfl (fun K hK => ?_) AllReadyH.nil)
    go_simp
    refine (HSH.out _ HY7.out).mono ?_
    rintro e Y8 ⟨rfl, hb⟩
    have HY8 := hide (HY7.out.trans (hb.mono HY7.out.size))
    clear hb
    try go_wp2_with fail
    refine hK.out _ _ ?_ (fun hHeld => ?_)
    · exact ⟨(HC.out _ HY8.out).1, (HC.out _ HY8.out).2.2⟩
    clear hK K
    try simp only [List.getElem_toArray, List.getElem_cons_succ, List.getElem_cons_zero, Act.put, List.setIfInBounds_toArray, List.set_cons_zero, List.set_cons_succ]
    refine wpAnyH_take (i := 7) (v := ?_) rfl (by kernel_rfl) (by kernel_rfl) (by kernel_rfl) (fun _ _ _ h => h) (Or.inl ⟨by rfl, ?_⟩) (by assumption) ?_
    rotate_left
    · (intro w hSw; (try dsimp only at hSw); go_simp; try with_reducible rfl)
    try simp only [List.getElem_toArray, List.getElem_cons_succ, List.getElem_cons_zero, Act.put, List.setIfInBounds_toArray, List.set_cons_zero, List.set_cons_succ]
    obtain ⟨r0, r1, r2, r3, r4, r5⟩ := (HC.out Y8 HY8.out).2.1.ly6
    have rf := (HC.out Y8 HY8.out).2.1.frozen
    refine wpAnyH_ready (rs := [8]) (by kernel_rfl) (by simp) (AllReadyH.cons rfl (fun K hK => ?_) AllReadyH.nil)
    go_simp
    try go_wp2_with fail
    refine hK.out _ _ ?_ (fun hHeld => ?_)
    · exact HSX.out _ HY8.out _ _ _ _ _ _
    clear hK K
    try simp only [List.getElem_toArray, List.getElem_cons_succ, List.getElem_cons_zero, Act.put, List.setIfInBounds_toArray, List.set_cons_zero, List.set_cons_succ]
    refine wpAnyH_take (i := 9) (v := ?_) rfl (by kernel_rfl) (by kernel_rfl) (by kernel_rfl) (fun _ _ _ h => h) (Or.inl ⟨by rfl, ?_⟩) (by assumption) ?_
    rotate_left
    · (intro w hSw; (try dsimp only at hSw); go_simp; try with_reducible rfl)
    try simp only [List.getElem_toArray, List.getElem_cons_succ, List.getElem_cons_zero, Act.put, List.setIfInBounds_toArray, List.set_cons_zero, List.set_cons_succ]
    refine wpAnyH_done (by kernel_rfl) ?_ _
    have k1 := (HC.out Y8 HY8.out).2.1
    have hEN := HEN.out Y8 (HVX.out Y8 HY8.out)
    cases b5 with
    | false =>
      have HN := hide (HF5.out (by simp))
      go_wp2
      exact vend_s k1 (.slice a0 xs.length c0) (.int .i64 L.stack) (.slice a2 L.slots.length c2) (.int .i64 L.flash) (.int .i64 L.ram) (.slice a5 ts.length c5) false _ _ rfl rfl (vl_no (hEN _ _ _ _ _ _) HN.out)
    | true =>
      have HN := hide (HYY.out (by simp) (by simp) (by simp) HC6.out HC7.out HC8.out (by simp) (by simp) (by simp))
      have HLE := hide (show LyT (st6 Y8 U.heap.size (.slice a0 xs.length c0) (.int .i64 L.stack) (.slice a2 L.slots.length c2) (.int .i64 L.flash) (.int .i64 L.ram) (.slice a5 ts.length c5)) L a0 c0 xs a2 c2 a5 c5 ts from ((HOW.out.below' HY8.out).kept (turn_st6 _ _ _ _ _ _ _ _) (fun j hj _ e => by have e' : j = U.heap.size := e; have := HUS.out.2; omega)).lyt HLB.out.r HLV.out)
      go_wp2
      exact vend_s k1 (.slice a0 xs.length c0) (.int .i64 L.stack) (.slice a2 L.slots.length c2) (.int .i64 L.flash) (.int .i64 L.ram) (.slice a5 ts.length c5) true _ _ rfl rfl (vl_yes HEL.out (hEN _ _ _ _ _ _) HN.out HLE.out)
set_option maxHeartbeats 4000000 in
theorem sMachineOk_any (M : Mn) (w : World) (h : MnD w M) : Calls Tryz.prog 44 #[.agg #[.slice M.ma M.mn M.mc, .int .i64 M.cs, .int .i64 M.cw, .int .i64 M.ck, .int .i64 M.cd, .int .i64 M.pc, .slice M.ka M.kn M.kc, .slice M.fa M.fn M.fc, .slice M.ra M.rn M.rc, .slice M.oa M.on M.oc, .int .i64 M.md, .int .i64 M.bk, .slice M.la M.ln M.lc, .slice M.ha M.hn M.hc, .int .i64 M.tn]] w (Yn (MOk M) w) := by
  obtain ⟨U, hU⟩ : ∃ U, U = w.alloc (.cells #[.slice M.ma M.mn M.mc, .int .i64 M.cs, .int .i64 M.cw, .int .i64 M.ck, .int .i64 M.cd, .int .i64 M.pc, .slice M.ka M.kn M.kc, .slice M.fa M.fn M.fc, .slice M.ra M.rn M.rc, .slice M.oa M.on M.oc, .int .i64 M.md, .int .i64 M.bk, .slice M.la M.ln M.lc, .slice M.ha M.hn M.hc, .int .i64 M.tn] 54) := ⟨_, rfl⟩
  have bU : Below w.heap.size w U := by rw [hU]; exact (Below.refl _ _).alloc (Nat.le_refl _) _
  have kU : Blk U w.heap.size #[.slice M.ma M.mn M.mc, .int .i64 M.cs, .int .i64 M.cw, .int .i64 M.ck, .int .i64 M.cd, .int .i64 M.pc, .slice M.ka M.kn M.kc, .slice M.fa M.fn M.fc, .slice M.ra M.rn M.rc, .slice M.oa M.on M.oc, .int .i64 M.md, .int .i64 M.bk, .slice M.la M.ln M.lc, .slice M.ha M.hn M.hc, .int .i64 M.tn] 54 := by rw [hU]; exact Blk.new _ _ _
  have HVL := hide (l7Ok_any M U (h.below bU))
  have HU := hide hU
  have HB := hide bU
  obtain ⟨m0, m1, m2, m3, m4, m5, m6, m7, m8, m9, m10, m11, m12, m13, m14⟩ := kU.mc
  clear hU bU kU h
  go_enter Tryz.func44, Tryz.ntmps44
  go_wp2_with (rw [← HU.out])
  refine HVL.out.mono ?_
  rintro e X1 ⟨hb, y0, n0, d0, i1, y2, n2, d2, i3, i4, y5, n5, d5, b, rfl, hbm, _⟩
  have HE := hide (show Yn (MOk M) w (.returned (.bool b)) (X1.alloc (.cells #[.slice y0 n0 d0, .int .i64 i1, .slice y2 n2 d2, .int .i64 i3, .int .i64 i4, .slice y5 n5 d5] 36)) from ⟨b, rfl, hbm, (HB.out.trans (hb.mono HB.out.size)).alloc (by have h1 := HB.out.size; have h2 := hb.size; omega) _⟩)
  clear hb hbm
  go_wp2
  go_ret
  exact HE.out
end Go.Proofs.YtngdgogjlpjjpaeGreat
