import Derived.Test.YtngdgogjlpjjpaeGreatP23
import Derived.Test.YtngdgogjlpjjpaeGreatP31
import Derived.Test.YtngdgogjlpjjpaeGreatP34
import Derived.Test.YtngdgogjlpjjpaeGreatP40
namespace Go.Proofs.YtngdgogjlpjjpaeGreat
open Go.RowKit Classical
set_option linter.unusedVariables false
set_option linter.unusedSimpArgs false
set_option maxRecDepth 100000
theorem imR_len {ps : List PMod} {L : Lay} (e : Lok ps L) : ((imR ps L).length : Int) = L.ram := by
  unfold imR
  rw [if_pos e]
  have K := lok_kn e
  have h3 := K.rr
  have h4 : ∀ i, i ≤ ps.length → (raB ps L i).length = L.ram.toNat := by
    intro i
    induction i with
    | zero => intro _; simp [raB]
    | succ i ih =>
      intro hi
      have h5 := ih (by omega)
      have h6 := (K.at i (by omega)).2.2.2
      rw [raB, relB_len, ovr_len]
      · exact h5
      · rw [h5, K.place i (by omega)]
        omega
  have := h4 ps.length (Nat.le_refl _)
  omega
set_option maxHeartbeats 16000000 in
theorem memoryOk_any (M : Mn) (L : Lay) (a0 : Option Addr) (c0 : Nat) (xs : List PB) (a2 : Option Addr) (c2 : Nat) (a5 : Option Addr) (c5 : Nat) (ts : List TB) (w : World) (h : MnD w M) (hL : LyT w L a0 c0 xs a2 c2 a5 c5 ts) (hk : Lok (pmS M.ms) L) :
    Calls Tryz.prog 172 #[.agg #[.slice M.ma M.mn M.mc, .int .i64 M.cs, .int .i64 M.cw, .int .i64 M.ck, .int .i64 M.cd, .int .i64 M.pc, .slice M.ka M.kn M.kc, .slice M.fa M.fn M.fc, .slice M.ra M.rn M.rc, .slice M.oa M.on M.oc, .int .i64 M.md, .int .i64 M.bk, .slice M.la M.ln M.lc, .slice M.ha M.hn M.hc, .int .i64 M.tn], .agg #[.slice a0 xs.length c0, .int .i64 L.stack, .slice a2 L.slots.length c2, .int .i64 L.flash, .int .i64 L.ram, .slice a5 ts.length c5]] w (Yn (mok M.fn M.rn M.on = true ∧ imF (pmS M.ms) L = M.fz ∧ (M.rn : Int) = L.ram) w) := by
  obtain ⟨U, hU⟩ : ∃ U, U = w.alloc (.cells #[.slice M.ma M.mn M.mc, .int .i64 M.cs, .int .i64 M.cw, .int .i64 M.ck, .int .i64 M.cd, .int .i64 M.pc, .slice M.ka M.kn M.kc, .slice M.fa M.fn M.fc, .slice M.ra M.rn M.rc, .slice M.oa M.on M.oc, .int .i64 M.md, .int .i64 M.bk, .slice M.la M.ln M.lc, .slice M.ha M.hn M.hc, .int .i64 M.tn] 54) := ⟨_, rfl⟩
  have bU : Below w.heap.size w U := by rw [hU]; exact (Below.refl _ _).alloc (Nat.le_refl _) _
  have kU : Blk U w.heap.size #[.slice M.ma M.mn M.mc, .int .i64 M.cs, .int .i64 M.cw, .int .i64 M.ck, .int .i64 M.cd, .int .i64 M.pc, .slice M.ka M.kn M.kc, .slice M.fa M.fn M.fc, .slice M.ra M.rn M.rc, .slice M.oa M.on M.oc, .int .i64 M.md, .int .i64 M.bk, .slice M.la M.ln M.lc, .slice M.ha M.hn M.hc, .int .i64 M.tn] 54 := by rw [hU]; exact Blk.new _ _ _
  obtain ⟨V, hV⟩ : ∃ V, V = U.alloc (.cells #[.slice a0 xs.length c0, .int .i64 L.stack, .slice a2 L.slots.length c2, .int .i64 L.flash, .int .i64 L.ram, .slice a5 ts.length c5] 36) := ⟨_, rfl⟩
  have bV : Below U.heap.size U V := by rw [hV]; exact (Below.refl _ _).alloc (Nat.le_refl _) _
  have kV : Blk V U.heap.size #[.slice a0 xs.length c0, .int .i64 L.stack, .slice a2 L.slots.length c2, .int .i64 L.flash, .int .i64 L.ram, .slice a5 ts.length c5] 36 := by rw [hV]; exact Blk.new _ _ _
  have BV := bU.trans (bV.mono bU.size)
  have kU' := kU.below bV
  have HIM := hide (show Calls Tryz.prog 23 #[.slice M.ma M.mn M.mc, .agg #[.slice a0 xs.length c0, .int .i64 L.stack, .slice a2 L.slots.length c2, .int .i64 L.flash, .int .i64 L.ram, .slice a5 ts.length c5]] V (fun e w' => Below V.heap.size V w' ∧ ∃ b1 n1 d1 b2 n2 d2 b3 n3 d3, e = .returned (.tuple #[.agg #[.slice b1 n1 d1, .slice b2 n2 d2, .slice b3 n3 d3], .bool true]) ∧ OM w' V.heap.size (.slice b1 n1 d1) (.slice b2 n2 d2) (.slice b3 n3 d3) (imF (pmS M.ms) L) (imR (pmS M.ms) L) []) from by
    have := iImage_any M.ma M.mn M.mc M.ms L a0 c0 xs a2 c2 a5 c5 ts V (h.m.below BV) (hL.below BV)
    unfold ImM at this
    rw [decide_eq_true hk] at this
    exact this)
  have HRL := hide (imR_len hk)
  have HFV := hide (fun (X : World) (hX : Below V.heap.size V X) => (h.f.below BV).below hX)
  have HU := hide hU
  have HV := hide hV
  have HB := hide BV
  have HMO := hide (fun (X : World) => iMemOk_any M.fa M.ra M.oa M.fn M.fc M.rn M.rc M.on M.oc X)
  have hmr := h.r.2.1
  unfold maxLen at hmr
  have HC := hide (fun (X : World) (hX : Below V.heap.size V X) => show X.cell? ⟨w.heap.size, 0, none⟩ = some (.slice M.ma M.mn M.mc) ∧ X.cell? ⟨w.heap.size, 7, none⟩ = some (.slice M.fa M.fn M.fc) ∧ X.cell? ⟨w.heap.size, 8, none⟩ = some (.slice M.ra M.rn M.rc) ∧ X.cell? ⟨w.heap.size, 9, none⟩ = some (.slice M.oa M.on M.oc) from ⟨(kU'.below hX).cell 0, (kU'.below hX).cell 7, (kU'.below hX).cell 8, (kU'.below hX).cell 9⟩)
  obtain ⟨z0, z1, z2, z3, z4, z5⟩ := kV.ly6
  obtain ⟨y0, y7, y8, y9⟩ := HC.out V (Below.refl _ _)
  clear hU hV bU bV kU kU' kV BV h hL hk
  go_enter Tryz.func172, Tryz.ntmps172
  go_wp2_with (first | rw [← HU.out] | rw [← HV.out])
  refine HIM.out.mono ?_
  rintro e X1 ⟨hb1, b1, n1, d1, b2, n2, d2, b3, n3, d3, rfl, O⟩
  obtain ⟨W, hW⟩ : ∃ W, W = X1.alloc (.cells #[.slice b1 n1 d1, .slice b2 n2 d2, .slice b3 n3 d3] 50) := ⟨_, rfl⟩
  have bW : Below X1.heap.size X1 W := by rw [hW]; exact (Below.refl _ _).alloc (Nat.le_refl _) _
  have kW : Blk W X1.heap.size #[.slice b1 n1 d1, .slice b2 n2 d2, .slice b3 n3 d3] 50 := by rw [hW]; exact Blk.new _ _ _
  have BW := hb1.trans (bW.mono hb1.size)
  have HW := hide hW
  have HBW := hide BW
  have HOF := hide (fun (X : World) (hX : Below W.heap.size W X) => (((O.o1.below bW).below hX).bs))
  have HRN := hide (show ((n2 : Nat) : Int) = L.ram from by rw [← HRL.out, O.o2.bs.1])
  have hn2 := O.o2.bs.2.1
  unfold maxLen at hn2
  have HKW := hide kW
  clear y0 y7 y8 y9 z0 z1 z2 z3 z4 z5 HU HV HIM hW bW kW hb1 O
  obtain ⟨y0, y7, y8, y9⟩ := HC.out W BW
  clear BW
  have HBE := hide (fun (X : World) (hX : Below W.heap.size W X) => bytesEqual_any M.fa b1 M.fn M.fc n1 d1 M.fz (imF (pmS M.ms) L) X (HFV.out X (HBW.out.trans (hX.mono HBW.out.size))) (HOF.out X hX))
  by_cases c1 : mok M.fn M.rn M.on = true
  · rw [c1] at HMO
    have HC1 := hide c1
    clear c1
    go_wp2_with (rw [← HW.out])
    refine (HMO.out _).mono ?_
    rintro e X2 ⟨rfl, hb2⟩
    have HB2 := hide (HBW.out.trans (hb2.mono HBW.out.size))
    have HBE2 := hide (HBE.out X2 hb2)
    clear y0 y7 y8 y9
    obtain ⟨y0, y7, y8, y9⟩ := HC.out X2 HB2.out
    have i0 : X2.cell? ⟨X1.heap.size, 0, none⟩ = some (.slice b1 n1 d1) := (HKW.out.below hb2).cell 0
    have i1 : X2.cell? ⟨X1.heap.size, 1, none⟩ = some (.slice b2 n2 d2) := (HKW.out.below hb2).cell 1
    clear hb2 HMO HBE HKW HOF HFV HC HW
    by_cases c2 : M.fz = imF (pmS M.ms) L
    · rw [decide_eq_true c2] at HBE2
      have HC2 := hide c2.symm
      clear c2
      go_wp2_with fail
      refine HBE2.out.mono ?_
      rintro e X3 ⟨rfl, rfl⟩
      go_wp2
      go_ret
      have hrn := HRN.out
      refine ⟨_, rfl, ?_, HB.out.trans (HB2.out.mono HB.out.size)⟩
      constructor
      · intro q
        exact ⟨HC1.out, HC2.out, by simp at q; omega⟩
      · intro q
        have := q.2.2
        simp
        omega
    · rw [decide_eq_false c2] at HBE2
      have HC2 := hide (show ¬ (mok M.fn M.rn M.on = true ∧ imF (pmS M.ms) L = M.fz ∧ (M.rn : Int) = L.ram) from fun q => c2 q.2.1.symm)
      clear c2
      go_wp2_with fail
      refine HBE2.out.mono ?_
      rintro e X3 ⟨rfl, rfl⟩
      go_wp2
      go_ret
      exact yn_f HC2.out (HB.out.trans (HB2.out.mono HB.out.size))
  · have e1 : mok M.fn M.rn M.on = false := by simpa using c1
    rw [e1] at HMO
    have HC2 := hide (show ¬ (mok M.fn M.rn M.on = true ∧ imF (pmS M.ms) L = M.fz ∧ (M.rn : Int) = L.ram) from fun q => c1 q.1)
    clear c1 e1
    go_wp2_with (rw [← HW.out])
    refine (HMO.out _).mono ?_
    rintro e X2 ⟨rfl, hb2⟩
    have HB2 := hide (HBW.out.trans (hb2.mono HBW.out.size))
    clear hb2
    go_wp2
    go_ret
    exact yn_f HC2.out (HB.out.trans (HB2.out.mono HB.out.size))
set_option maxHeartbeats 8000000 in
theorem runsOk_any (M : Mn) (w : World) (h : MnD w M) :
    Calls Tryz.prog 174 #[.agg #[.slice M.ma M.mn M.mc, .int .i64 M.cs, .int .i64 M.cw, .int .i64 M.ck, .int .i64 M.cd, .int .i64 M.pc, .slice M.ka M.kn M.kc, .slice M.fa M.fn M.fc, .slice M.ra M.rn M.rc, .slice M.oa M.on M.oc, .int .i64 M.md, .int .i64 M.bk, .slice M.la M.ln M.lc, .slice M.ha M.hn M.hc, .int .i64 M.tn]] w (Yn (rnOk (pmS M.ms) M.cs M.md M.bk M.lz) w) := by
  obtain ⟨U, hU⟩ : ∃ U, U = w.alloc (.cells #[.slice M.ma M.mn M.mc, .int .i64 M.cs, .int .i64 M.cw, .int .i64 M.ck, .int .i64 M.cd, .int .i64 M.pc, .slice M.ka M.kn M.kc, .slice M.fa M.fn M.fc, .slice M.ra M.rn M.rc, .slice M.oa M.on M.oc, .int .i64 M.md, .int .i64 M.bk, .slice M.la M.ln M.lc, .slice M.ha M.hn M.hc, .int .i64 M.tn] 54) := ⟨_, rfl⟩
  have bU : Below w.heap.size w U := by rw [hU]; exact (Below.refl _ _).alloc (Nat.le_refl _) _
  have kU : Blk U w.heap.size #[.slice M.ma M.mn M.mc, .int .i64 M.cs, .int .i64 M.cw, .int .i64 M.ck, .int .i64 M.cd, .int .i64 M.pc, .slice M.ka M.kn M.kc, .slice M.fa M.fn M.fc, .slice M.ra M.rn M.rc, .slice M.oa M.on M.oc, .int .i64 M.md, .int .i64 M.bk, .slice M.la M.ln M.lc, .slice M.ha M.hn M.hc, .int .i64 M.tn] 54 := by rw [hU]; exact Blk.new _ _ _
  have HIP := hide (isPiece_any M.ma M.mn M.mc M.ms M.md M.bk U (h.m.s.below bU))
  rw [pcm_pcq h.m M.md M.bk] at HIP
  have HSW := hide (fun (X : World) (hX : Below U.heap.size U X) => slotWith_any M.la M.ln M.lc M.lz M.md M.bk X ((h.l.below bU).below hX))
  have HU := hide hU
  have HB := hide bU
  have HC := hide (fun (X : World) (hX : Below U.heap.size U X) => show X.cell? ⟨w.heap.size, 0, none⟩ = some (.slice M.ma M.mn M.mc) ∧ X.cell? ⟨w.heap.size, 1, none⟩ = some (.int .i64 M.cs) ∧ X.cell? ⟨w.heap.size, 10, none⟩ = some (.int .i64 M.md) ∧ X.cell? ⟨w.heap.size, 11, none⟩ = some (.int .i64 M.bk) ∧ X.cell? ⟨w.heap.size, 12, none⟩ = some (.slice M.la M.ln M.lc) from ⟨(kU.below hX).cell 0, (kU.below hX).cell 1, (kU.below hX).cell 10, (kU.below hX).cell 11, (kU.below hX).cell 12⟩)
  obtain ⟨y0, y1, y10, y11, y12⟩ := HC.out U (Below.refl _ _)
  clear hU bU kU h
  by_cases c1 : 0 ≤ pcq (pmS M.ms) M.md M.bk
  · rw [decide_eq_true c1] at HIP
    have HPR := hide (show (rnOk (pmS M.ms) M.cs M.md M.bk M.lz) ↔ (M.cs = 0 ∨ M.bk = -1 ∨ hld M.lz M.md M.bk ≠ -1) from ⟨fun q => q.2, fun q => ⟨c1, q⟩⟩)
    clear c1
    go_enter Tryz.func174, Tryz.ntmps174
    go_wp2_with (rw [← HU.out])
    refine HIP.out.mono ?_
    rintro e X1 ⟨rfl, hb1⟩
    have HX1 := hide hb1
    clear y0 y1 y10 y11 y12
    obtain ⟨y0, y1, y10, y11, y12⟩ := HC.out X1 hb1
    have HS1 := hide (HSW.out X1 hb1)
    clear hb1 HIP HU HSW HC
    by_cases c2 : M.cs = 0
    · have c2' : (M.cs != 0) = false := by simp [c2]
      have HP := hide (HPR.out.2 (.inl c2))
      clear c2
      go_wp2
      go_ret
      exact yn_t HP.out (HB.out.trans (HX1.out.mono HB.out.size))
    have c2' : (M.cs != 0) = true := by simp [c2]
    by_cases c3 : M.bk = -1
    · have c3' : (M.bk != -1) = false := by simp [c3]
      have HP := hide (HPR.out.2 (.inr (.inl c3)))
      clear c2 c3
      go_wp2
      go_ret
      exact yn_t HP.out (HB.out.trans (HX1.out.mono HB.out.size))
    have c3' : (M.bk != -1) = true := by simp [c3]
    have HP := hide (show (rnOk (pmS M.ms) M.cs M.md M.bk M.lz) ↔ hld M.lz M.md M.bk ≠ -1 from ⟨fun q => by rcases HPR.out.1 q with e | e | e; exact absurd e c2; exact absurd e c3; exact e, fun q => HPR.out.2 (.inr (.inr q))⟩)
    clear c2 c3 HPR
    generalize hld M.lz M.md M.bk = r at *
    go_wp2_with fail
    refine HS1.out.mono ?_
    rintro e X2 ⟨rfl, hb2⟩
    have HX2 := hide (HX1.out.trans (hb2.mono HX1.out.size))
    clear hb2 HS1
    go_wp2
    go_ret
    exact ⟨_, rfl, by rw [HP.out]; simp, HB.out.trans (HX2.out.mono HB.out.size)⟩
  · rw [decide_eq_false c1] at HIP
    have HN := hide (show ¬ (rnOk (pmS M.ms) M.cs M.md M.bk M.lz) from fun q => c1 q.1)
    clear c1
    go_enter Tryz.func174, Tryz.ntmps174
    go_wp2_with (rw [← HU.out])
    refine HIP.out.mono ?_
    rintro e X1 ⟨rfl, hb1⟩
    have HX1 := hide hb1
    clear hb1 HIP HU
    go_wp2
    go_ret
    exact yn_f HN.out (HB.out.trans (HX1.out.mono HB.out.size))
end Go.Proofs.YtngdgogjlpjjpaeGreat
