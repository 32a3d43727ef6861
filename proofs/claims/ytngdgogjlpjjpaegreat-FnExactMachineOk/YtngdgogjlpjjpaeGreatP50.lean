import Derived.Test.YtngdgogjlpjjpaeGreatP45
import Derived.Test.YtngdgogjlpjjpaeGreatP48
import Derived.Test.YtngdgogjlpjjpaeGreatP49
namespace Go.Proofs.YtngdgogjlpjjpaeGreat
open Go.RowKit Classical
set_option linter.unusedVariables false
set_option linter.unusedSimpArgs false
set_option maxRecDepth 100000
set_option maxHeartbeats 1000000 in
theorem ld_lm {a : Act} {W : World} {G k : Nat} {d : Option Tmp} {ty : TypeId} {p : String} {af : Array _} {gd : Option _} {v0 v1 v2 v3 v4 v5 v6 v7 v8 v9 v10 v11 v12 v13 v14 : Value} (kb : Blk W G #[v0, v1, v2, v3, v4, v5, v6, v7, v8, v9, v10, v11, v12, v13, v14] 88) (h : a.tmps[k]?.getD undef = .pointer (some ⟨G, 0, none⟩)) : (execOp a.eval { dst := d, op := Op.load 88 (Operand.tmp k), type := ty, pos := p, after := af, guard := gd }).run Tryz.prog W = .ok (.value (.agg #[v0, v1, v2, v3, v4, v5, v6, v7, v8, v9, v10, v11, v12, v13, v14])) W := by
  obtain ⟨q0, q1, q2, q3, q4, q5, q6, q7, q8, q9, q10, q11, q12, q13, q14⟩ := kb.mc
  go_simp
theorem mok_cp {M : Mn} {g0 g1 g2 g3 g4 g5 g6 : Nat} {ms' : List Md} (e : pmS ms' = pmS M.ms) : MOk (M.cp g0 g1 g2 g3 g4 g5 g6 ms') ↔ MOk M := by
  have eL : (M.cp g0 g1 g2 g3 g4 g5 g6 ms').L = M.L := by unfold Mn.L; show lkL (pmS ms') M.cs M.cw M.ck M.cd = _; rw [e]
  constructor
  · rintro ⟨l, p, c, b, f, r, t, s, n, h⟩
    rw [eL] at p f r s
    simp only [Mn.cp] at l p c b f r t s n h
    rw [e] at l p f s n h
    exact ⟨l, p, c, b, f, r, t, s, n, h⟩
  · rintro ⟨l, p, c, b, f, r, t, s, n, h⟩
    rw [← eL] at p f r s
    rw [← e] at l p f s n h
    exact ⟨l, p, c, b, f, r, t, s, n, h⟩
theorem sam_cp {w W W' : World} {M : Mn} {base base' : Nat} {g0 g1 g2 g3 g4 g5 g6 k0 k1 k2 k3 k4 k5 k6 : Nat} {m1 m2 : List Md} (t : MnT w M) (h : MnR W base M g0 g1 g2 g3 g4 g5 g6 m1) (h' : MnR W' base' M k0 k1 k2 k3 k4 k5 k6 m2) (hm : ∀ i, i < M.mn → Same (m1.getD i zMd) (m2.getD i zMd)) : Sam (M.cp g0 g1 g2 g3 g4 g5 g6 m1) (M.cp k0 k1 k2 k3 k4 k5 k6 m2) :=
  ⟨⟨rfl, rfl, rfl, rfl, rfl, rfl, rfl, rfl⟩, ⟨rfl, rfl, rfl, rfl, rfl, rfl, rfl⟩, ⟨rfl, rfl, rfl, rfl, rfl, rfl⟩, hm⟩
set_option maxHeartbeats 16000000 in
theorem exactMachineOk_walk (M : Mn) (w : World) (h : MnT w M) : Calls Tryz.prog 8 #[.agg #[.slice M.ma M.mn M.mc, .int .i64 M.cs, .int .i64 M.cw, .int .i64 M.ck, .int .i64 M.cd, .int .i64 M.pc, .slice M.ka M.kn M.kc, .slice M.fa M.fn M.fc, .slice M.ra M.rn M.rc, .slice M.oa M.on M.oc, .int .i64 M.md, .int .i64 M.bk, .slice M.la M.ln M.lc, .slice M.ha M.hn M.hc, .int .i64 M.tn]] w fun e w' => e = .returned (.bool true) ∧ Below w.heap.size w w' := by
  obtain ⟨U, hU⟩ : ∃ U, U = w.alloc (.cells #[.slice M.ma M.mn M.mc, .int .i64 M.cs, .int .i64 M.cw, .int .i64 M.ck, .int .i64 M.cd, .int .i64 M.pc, .slice M.ka M.kn M.kc, .slice M.fa M.fn M.fc, .slice M.ra M.rn M.rc, .slice M.oa M.on M.oc, .int .i64 M.md, .int .i64 M.bk, .slice M.la M.ln M.lc, .slice M.ha M.hn M.hc, .int .i64 M.tn] 88) := ⟨_, rfl⟩
  have bU : Below w.heap.size w U := by rw [hU]; exact (Below.refl _ _).alloc (Nat.le_refl _) _
  have kU : Blk U w.heap.size #[.slice M.ma M.mn M.mc, .int .i64 M.cs, .int .i64 M.cw, .int .i64 M.ck, .int .i64 M.cd, .int .i64 M.pc, .slice M.ka M.kn M.kc, .slice M.fa M.fn M.fc, .slice M.ra M.rn M.rc, .slice M.oa M.on M.oc, .int .i64 M.md, .int .i64 M.bk, .slice M.la M.ln M.lc, .slice M.ha M.hn M.hc, .int .i64 M.tn] 88 := by rw [hU]; exact Blk.new _ _ _
  have HSZ := hide (szMachine_any M U (h.below bU))
  have HT := hide h
  have HU := hide hU
  have HB := hide bU
  have HK := hide (fun (X : World) (hX : Below U.heap.size U X) => kU.below hX)
  obtain ⟨m0, m1, m2, m3, m4, m5, m6, m7, m8, m9, m10, m11, m12, m13, m14⟩ := kU.mc
  clear hU bU kU h
  go_enter Tryz.func8, Tryz.ntmps8
  go_wp2_with (rw [← HU.out])
  refine HSZ.out.mono ?_
  rintro e X1 ⟨z, rfl, hz, hb⟩
  have HX1 := hide hb
  clear hb HSZ HU m0 m1 m2 m3 m4 m5 m6 m7 m8 m9 m10 m11 m12 m13 m14
  by_cases cz : z < 0
  · clear hz
    go_wp2
    go_ret
    exact ⟨rfl, HB.out.trans (HX1.out.mono HB.out.size)⟩
  have HMB := hide (hz (by omega))
  clear hz
  obtain ⟨b, hb⟩ := bool_of (MOk M)
  have HTO := hide (fun (X : World) (hX : Below U.heap.size U X) => (toMachine_any M X ((HT.out.below HB.out).below hX) HMB.out).mono (fun e w' he => show ∃ g0 g1 g2 g3 g4 g5 g6 ms', e = .returned (.agg #[.slice (some ⟨g0, 0, none⟩) M.mn M.mn, .int .i64 M.cs, .int .i64 M.cw, .int .i64 M.ck, .int .i64 M.cd, .int .i64 M.pc, .slice (some ⟨g1, 0, none⟩) M.kn M.kn, .slice (some ⟨g2, 0, none⟩) M.fn M.fn, .slice (some ⟨g3, 0, none⟩) M.rn M.rn, .slice (some ⟨g4, 0, none⟩) M.on M.on, .int .i64 M.md, .int .i64 M.bk, .slice (some ⟨g5, 0, none⟩) M.ln M.ln, .slice (some ⟨g6, 0, none⟩) M.hn M.hn, .int .i64 M.tn]) ∧ MnR w' X.heap.size M g0 g1 g2 g3 g4 g5 g6 ms' ∧ Below X.heap.size X w' from he))
  have HSM := hide (fun (X : World) (hX : Below U.heap.size U X) (g0 g1 g2 g3 g4 g5 g6 : Nat) (ms' : List Md) (bs : Nat) (r : MnR X bs M g0 g1 g2 g3 g4 g5 g6 ms') => show Calls Tryz.prog 44 #[.agg #[.slice (some ⟨g0, 0, none⟩) M.mn M.mn, .int .i64 M.cs, .int .i64 M.cw, .int .i64 M.ck, .int .i64 M.cd, .int .i64 M.pc, .slice (some ⟨g1, 0, none⟩) M.kn M.kn, .slice (some ⟨g2, 0, none⟩) M.fn M.fn, .slice (some ⟨g3, 0, none⟩) M.rn M.rn, .slice (some ⟨g4, 0, none⟩) M.on M.on, .int .i64 M.md, .int .i64 M.bk, .slice (some ⟨g5, 0, none⟩) M.ln M.ln, .slice (some ⟨g6, 0, none⟩) M.hn M.hn, .int .i64 M.tn]] X (fun e w' => e = .returned (.bool b) ∧ Below X.heap.size X w') from
    (sMachineOk_any (M.cp g0 g1 g2 g3 g4 g5 g6 ms') X (r.mnd HT.out HMB.out)).mono (fun e w' he => yn_is he b (hb.trans (mok_cp (rowm_pms r.m r.n HT.out.m.1)).symm)))
  have HIM := hide (fun (X : World) (hX : Below U.heap.size U X) (g0 g1 g2 g3 g4 g5 g6 : Nat) (ms' : List Md) (bs : Nat) (r : MnR X bs M g0 g1 g2 g3 g4 g5 g6 ms') => show Calls Tryz.prog 20 #[.agg #[.slice (some ⟨g0, 0, none⟩) M.mn M.mn, .int .i64 M.cs, .int .i64 M.cw, .int .i64 M.ck, .int .i64 M.cd, .int .i64 M.pc, .slice (some ⟨g1, 0, none⟩) M.kn M.kn, .slice (some ⟨g2, 0, none⟩) M.fn M.fn, .slice (some ⟨g3, 0, none⟩) M.rn M.rn, .slice (some ⟨g4, 0, none⟩) M.on M.on, .int .i64 M.md, .int .i64 M.bk, .slice (some ⟨g5, 0, none⟩) M.ln M.ln, .slice (some ⟨g6, 0, none⟩) M.hn M.hn, .int .i64 M.tn]] X (fun e w' => e = .returned (.bool b) ∧ Below X.heap.size X w') from
    (iMachineOk_any (M.cp g0 g1 g2 g3 g4 g5 g6 ms') X (r.mnd HT.out HMB.out)).mono (fun e w' he => yn_is he b (hb.trans (mok_cp (rowm_pms r.m r.n HT.out.m.1)).symm)))
  have HEQ := hide (fun (X : World) (g0 g1 g2 g3 g4 g5 g6 : Nat) (m1 : List Md) (bs : Nat) (r : MnR X bs M g0 g1 g2 g3 g4 g5 g6 m1) (k0 k1 k2 k3 k4 k5 k6 : Nat) (m2 : List Md) (bs2 : Nat) (r2 : MnR X bs2 M k0 k1 k2 k3 k4 k5 k6 m2) => show Calls Tryz.prog 38 #[.agg #[.slice (some ⟨g0, 0, none⟩) M.mn M.mn, .int .i64 M.cs, .int .i64 M.cw, .int .i64 M.ck, .int .i64 M.cd, .int .i64 M.pc, .slice (some ⟨g1, 0, none⟩) M.kn M.kn, .slice (some ⟨g2, 0, none⟩) M.fn M.fn, .slice (some ⟨g3, 0, none⟩) M.rn M.rn, .slice (some ⟨g4, 0, none⟩) M.on M.on, .int .i64 M.md, .int .i64 M.bk, .slice (some ⟨g5, 0, none⟩) M.ln M.ln, .slice (some ⟨g6, 0, none⟩) M.hn M.hn, .int .i64 M.tn], .agg #[.slice (some ⟨k0, 0, none⟩) M.mn M.mn, .int .i64 M.cs, .int .i64 M.cw, .int .i64 M.ck, .int .i64 M.cd, .int .i64 M.pc, .slice (some ⟨k1, 0, none⟩) M.kn M.kn, .slice (some ⟨k2, 0, none⟩) M.fn M.fn, .slice (some ⟨k3, 0, none⟩) M.rn M.rn, .slice (some ⟨k4, 0, none⟩) M.on M.on, .int .i64 M.md, .int .i64 M.bk, .slice (some ⟨k5, 0, none⟩) M.ln M.ln, .slice (some ⟨k6, 0, none⟩) M.hn M.hn, .int .i64 M.tn]] X (fun e w' => e = .returned (.bool true) ∧ Below X.heap.size X w') from
    eqMachine_same (M.cp g0 g1 g2 g3 g4 g5 g6 m1) (M.cp k0 k1 k2 k3 k4 k5 k6 m2) X (r.mnd HT.out HMB.out) (r2.mnd HT.out HMB.out) (sam_cp HT.out r r2 (RowM.same HT.out.m r.m r.n r2.m r2.n)))
  have hbb : (b != b) = false := by cases b <;> rfl
  clear hb
  obtain ⟨m0, m1, m2, m3, m4, m5, m6, m7, m8, m9, m10, m11, m12, m13, m14⟩ := (HK.out X1 HX1.out).mc
  go_wp2_with fail
  refine (HTO.out X1 HX1.out).mono ?_
  rintro e X2 ⟨p0, p1, p2, p3, p4, p5, p6, ms1, rfl, hr, hb⟩
  have HX2 := hide (HX1.out.trans (hb.mono HX1.out.size))
  have HS1 := hide (HSM.out X2 HX2.out p0 p1 p2 p3 p4 p5 p6 ms1 _ hr)
  clear hb hr HSM m0 m1 m2 m3 m4 m5 m6 m7 m8 m9 m10 m11 m12 m13 m14
  go_wp2_with fail
  refine HS1.out.mono ?_
  rintro e X3 ⟨rfl, hb⟩
  have HX3 := hide (HX2.out.trans (hb.mono HX2.out.size))
  clear hb HS1
  obtain ⟨m0, m1, m2, m3, m4, m5, m6, m7, m8, m9, m10, m11, m12, m13, m14⟩ := (HK.out X3 HX3.out).mc
  go_wp2_with fail
  refine (HTO.out X3 HX3.out).mono ?_
  rintro e X4 ⟨g0, g1, g2, g3, g4, g5, g6, ms2, rfl, hr, hb⟩
  have HX4 := hide (HX3.out.trans (hb.mono HX3.out.size))
  obtain ⟨W, hW⟩ : ∃ W, W = X4.alloc (.cells #[.slice (some ⟨g0, 0, none⟩) M.mn M.mn, .int .i64 M.cs, .int .i64 M.cw, .int .i64 M.ck, .int .i64 M.cd, .int .i64 M.pc, .slice (some ⟨g1, 0, none⟩) M.kn M.kn, .slice (some ⟨g2, 0, none⟩) M.fn M.fn, .slice (some ⟨g3, 0, none⟩) M.rn M.rn, .slice (some ⟨g4, 0, none⟩) M.on M.on, .int .i64 M.md, .int .i64 M.bk, .slice (some ⟨g5, 0, none⟩) M.ln M.ln, .slice (some ⟨g6, 0, none⟩) M.hn M.hn, .int .i64 M.tn] 54) := ⟨_, rfl⟩
  have bW : Below X4.heap.size X4 W := by rw [hW]; exact (Below.refl _ _).alloc (Nat.le_refl _) _
  have kW : Blk W X4.heap.size #[.slice (some ⟨g0, 0, none⟩) M.mn M.mn, .int .i64 M.cs, .int .i64 M.cw, .int .i64 M.ck, .int .i64 M.cd, .int .i64 M.pc, .slice (some ⟨g1, 0, none⟩) M.kn M.kn, .slice (some ⟨g2, 0, none⟩) M.fn M.fn, .slice (some ⟨g3, 0, none⟩) M.rn M.rn, .slice (some ⟨g4, 0, none⟩) M.on M.on, .int .i64 M.md, .int .i64 M.bk, .slice (some ⟨g5, 0, none⟩) M.ln M.ln, .slice (some ⟨g6, 0, none⟩) M.hn M.hn, .int .i64 M.tn] 54 := by rw [hW]; exact Blk.new _ _ _
  have HW := hide hW
  have HXW := hide (HX4.out.trans (bW.mono HX4.out.size))
  have HRW := hide (hr.below bW)
  have HKW := hide kW
  clear hb hr hW bW m0 m1 m2 m3 m4 m5 m6 m7 m8 m9 m10 m11 m12 m13 m14
  obtain ⟨m0, m1, m2, m3, m4, m5, m6, m7, m8, m9, m10, m11, m12, m13, m14⟩ := kW.mc
  clear kW
  have HI1 := hide (HIM.out W HXW.out g0 g1 g2 g3 g4 g5 g6 ms2 _ HRW.out)
  clear HIM
  go_wp2_with (rw [← HW.out])
  refine HI1.out.mono ?_
  rintro e X5 ⟨rfl, hb⟩
  have HX5 := hide (HXW.out.trans (hb.mono HXW.out.size))
  have HK5 := hide (fun (X : World) (hX : Below X5.heap.size X5 X) => show Blk X X4.heap.size #[.slice (some ⟨g0, 0, none⟩) M.mn M.mn, .int .i64 M.cs, .int .i64 M.cw, .int .i64 M.ck, .int .i64 M.cd, .int .i64 M.pc, .slice (some ⟨g1, 0, none⟩) M.kn M.kn, .slice (some ⟨g2, 0, none⟩) M.fn M.fn, .slice (some ⟨g3, 0, none⟩) M.rn M.rn, .slice (some ⟨g4, 0, none⟩) M.on M.on, .int .i64 M.md, .int .i64 M.bk, .slice (some ⟨g5, 0, none⟩) M.ln M.ln, .slice (some ⟨g6, 0, none⟩) M.hn M.hn, .int .i64 M.tn] 54 ∧ Blk X w.heap.size #[.slice M.ma M.mn M.mc, .int .i64 M.cs, .int .i64 M.cw, .int .i64 M.ck, .int .i64 M.cd, .int .i64 M.pc, .slice M.ka M.kn M.kc, .slice M.fa M.fn M.fc, .slice M.ra M.rn M.rc, .slice M.oa M.on M.oc, .int .i64 M.md, .int .i64 M.bk, .slice M.la M.ln M.lc, .slice M.ha M.hn M.hc, .int .i64 M.tn] 88 from ⟨(HKW.out.below hb).below hX, HK.out X (HX5.out.trans (hX.mono HX5.out.size))⟩)
  have HR5 := hide (HRW.out.below hb)
  clear hb HI1 HW m0 m1 m2 m3 m4 m5 m6 m7 m8 m9 m10 m11 m12 m13 m14 HKW HRW
  go_wp2_with fail
  refine wp_region_held_drew (S := (fun X => Blk X X4.heap.size #[.slice (some ⟨g0, 0, none⟩) M.mn M.mn, .int .i64 M.cs, .int .i64 M.cw, .int .i64 M.ck, .int .i64 M.cd, .int .i64 M.pc, .slice (some ⟨g1, 0, none⟩) M.kn M.kn, .slice (some ⟨g2, 0, none⟩) M.fn M.fn, .slice (some ⟨g3, 0, none⟩) M.rn M.rn, .slice (some ⟨g4, 0, none⟩) M.on M.on, .int .i64 M.md, .int .i64 M.bk, .slice (some ⟨g5, 0, none⟩) M.ln M.ln, .slice (some ⟨g6, 0, none⟩) M.hn M.hn, .int .i64 M.tn] 54 ∧ Blk X w.heap.size #[.slice M.ma M.mn M.mc, .int .i64 M.cs, .int .i64 M.cw, .int .i64 M.ck, .int .i64 M.cd, .int .i64 M.pc, .slice M.ka M.kn M.kc, .slice M.fa M.fn M.fc, .slice M.ra M.rn M.rc, .slice M.oa M.on M.oc, .int .i64 M.md, .int .i64 M.bk, .slice M.la M.ln M.lc, .slice M.ha M.hn M.hc, .int .i64 M.tn] 88)) (by kernel_rfl) ?_ (fun hHeld => ?_)
  · exact HK5.out _ (Below.refl _ _).drew
  refine wpAnyH_take (i := 0) rfl (by kernel_rfl) (by kernel_rfl) (by kernel_rfl) (fun _ _ _ h => h) (Or.inl ⟨by rfl, fun w hSw => ld_mn hSw.1 rfl⟩) (by assumption) ?_
  try simp only [List.getElem_toArray, List.getElem_cons_succ, List.getElem_cons_zero, Act.put, List.setIfInBounds_toArray, List.set_cons_zero, List.set_cons_succ]
  refine wpAnyH_take (i := 1) rfl (by kernel_rfl) (by kernel_rfl) (by kernel_rfl) (fun _ _ _ h => h) (Or.inl ⟨by rfl, fun w hSw => ld_lm hSw.2 rfl⟩) (by assumption) ?_
  try simp only [List.getElem_toArray, List.getElem_cons_succ, List.getElem_cons_zero, Act.put, List.setIfInBounds_toArray, List.set_cons_zero, List.set_cons_succ]
  refine wpAnyH_ready (rs := [2]) (by kernel_rfl) (by simp) (AllReadyH.cons rfl (fun K hK => ?_) AllReadyH.nil)
  go_simp
  refine (HTO.out _ HX5.out.drew).mono ?_
  rintro e X6 ⟨k0, k1, k2, k3, k4, k5, k6, ms3, rfl, hr, hb⟩
  have HX6 := hide ((Below.refl X5.heap.size X5).drew.trans (hb.mono (Below.refl X5.heap.size X5).drew.size))
  have HE1 := hide (HEQ.out X6 g0 g1 g2 g3 g4 g5 g6 ms2 _ (HR5.out.below HX6.out) k0 k1 k2 k3 k4 k5 k6 ms3 _ hr)
  clear hb hr
  try go_wp2_with fail
  refine hK.out _ _ ?_ (fun hHeld => ?_)
  · exact HK5.out _ HX6.out
  clear hK K
  try simp only [List.getElem_toArray, List.getElem_cons_succ, List.getElem_cons_zero, Act.put, List.setIfInBounds_toArray, List.set_cons_zero, List.set_cons_succ]
  refine wpAnyH_ready (rs := [3]) (by kernel_rfl) (by simp) (AllReadyH.cons rfl (fun K hK => ?_) AllReadyH.nil)
  go_simp
  refine HE1.out.mono ?_
  rintro e X7 ⟨rfl, hb⟩
  have HX7 := hide (HX6.out.trans (hb.mono HX6.out.size))
  clear hb
  try go_wp2_with fail
  refine hK.out _ _ ?_ (fun hHeld => ?_)
  · exact HK5.out _ HX7.out
  clear hK K
  try simp only [List.getElem_toArray, List.getElem_cons_succ, List.getElem_cons_zero, Act.put, List.setIfInBounds_toArray, List.set_cons_zero, List.set_cons_succ]
  refine wpAnyH_take (i := 4) (v := ?_) rfl (by kernel_rfl) (by kernel_rfl) (by kernel_rfl) (fun _ _ _ h => h) (Or.inl ⟨by rfl, ?_⟩) (by assumption) ?_
  rotate_left
  · (intro w hSw; (try dsimp only at hSw); go_simp; try with_reducible rfl)
  try simp only [List.getElem_toArray, List.getElem_cons_succ, List.getElem_cons_zero, Act.put, List.setIfInBounds_toArray, List.set_cons_zero, List.set_cons_succ]
  refine wpAnyH_done (by kernel_rfl) ?_ _
  have HE := hide (HB.out.trans ((HX5.out.trans (HX7.out.mono HX5.out.size)).mono HB.out.size))
  clear hHeld HK5 HEQ HTO
  go_wp2
  go_ret
  exact ⟨rfl, HE.out⟩
end Go.Proofs.YtngdgogjlpjjpaeGreat
