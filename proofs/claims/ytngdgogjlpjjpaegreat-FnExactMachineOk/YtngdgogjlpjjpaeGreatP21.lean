import Derived.Test.YtngdgogjlpjjpaeGreatP20
namespace Go.Proofs.YtngdgogjlpjjpaeGreat
open Go.RowKit Classical
set_option linter.unusedVariables false
set_option linter.unusedSimpArgs false
set_option maxRecDepth 100000
set_option maxHeartbeats 2000000 in
theorem samePlace_any (t d z : Int) (a : Option Addr) (n c : Nat) (bs : List Int) (t' d' z' : Int) (a' : Option Addr) (n' c' : Nat) (bs' : List Int) (w : World) (h : IS w a n c bs) (h' : IS w a' n' c' bs') :
    Calls Tryz.prog 206 #[.agg #[.int .i64 t, .slice a n c, .int .i64 d, .int .i64 z], .agg #[.int .i64 t', .slice a' n' c', .int .i64 d', .int .i64 z']] w fun e w' => e = .returned (.bool (decide ((⟨t, bs, d, z⟩ : Pl) = ⟨t', bs', d', z'⟩))) ∧ Below w.heap.size w w' := by
  have B0 : Below w.heap.size w ((w.alloc (.cells #[.int .i64 t, .slice a n c, .int .i64 d, .int .i64 z] 138)).alloc (.cells #[.int .i64 t', .slice a' n' c', .int .i64 d', .int .i64 z'] 138)) := ((Below.refl _ _).alloc (Nat.le_refl _) _).alloc (by simp) _
  have HB0 := hide B0
  have HEQ := hide (sliceEqI_any a a' n c n' c' bs bs' _ (h.below B0) (h'.below B0))
  clear B0 h h'
  obtain ⟨r, hr⟩ : ∃ r, r = decide ((⟨t, bs, d, z⟩ : Pl) = ⟨t', bs', d', z'⟩) := ⟨_, rfl⟩
  rw [← hr]
  simp only [Pl.mk.injEq] at hr
  have HR := hide hr
  clear hr
  by_cases c1 : t = t'
  · by_cases c2 : d = d'
    · by_cases c3 : z = z'
      · have g1 : (t == t') = true := by simpa using c1
        have g2 : (d == d') = true := by simpa using c2
        have g3 : (z == z') = true := by simpa using c3
        have HV := hide (show decide (bs = bs') = r by rw [HR.out]; simp [c1, c2, c3])
        rw [HV.out] at HEQ
        clear c1 c2 c3 HR
        go_enter Tryz.func206, Tryz.ntmps206
        go_wp2_with fail
        refine HEQ.out.mono ?_
        rintro e w1 ⟨rfl, hb1⟩
        cases r
        all_goals
          go_wp2
          go_ret
          exact ⟨rfl, HB0.out.trans (hb1.mono HB0.out.size)⟩
      · have g1 : (t == t') = true := by simpa using c1
        have g2 : (d == d') = true := by simpa using c2
        have g3 : (z == z') = false := by simpa using c3
        have HV := hide (show r = false by rw [HR.out]; simp [c3])
        clear c1 c2 c3 HR HEQ
        go_enter Tryz.func206, Tryz.ntmps206
        go_wp2
        go_ret
        exact ⟨ret_bool HV.out.symm, HB0.out⟩
    · have g1 : (t == t') = true := by simpa using c1
      have g2 : (d == d') = false := by simpa using c2
      have HV := hide (show r = false by rw [HR.out]; simp [c2])
      clear c1 c2 HR HEQ
      go_enter Tryz.func206, Tryz.ntmps206
      go_wp2
      go_ret
      exact ⟨ret_bool HV.out.symm, HB0.out⟩
  · have g1 : (t == t') = false := by simpa using c1
    have HV := hide (show r = false by rw [HR.out]; simp [c1])
    clear c1 HR HEQ
    go_enter Tryz.func206, Tryz.ntmps206
    go_wp2
    go_ret
    exact ⟨ret_bool HV.out.symm, HB0.out⟩
theorem map_getD {α β : Type} (f : α → β) (xs : List α) (i : Nat) (a : α) (b : β) (h : i < xs.length) : (xs.map f).getD i b = f (xs.getD i a) := by
  simp [List.getD_eq_getElem?_getD, h]
set_option maxHeartbeats 2000000 in
theorem equalFuncP_any (a a' : Option Addr) (n cap n' cap' : Nat) (xs ys : List PB) (w : World) (h : PlS w a n cap xs) (h' : PlS w a' n' cap' ys) :
    Calls Tryz.prog 205 #[.slice a n cap, .slice a' n' cap', .func (.func 206) #[] #[]] w fun e w' => e = .returned (.bool (decide (xs.map (fun x => x.1) = ys.map (fun x => x.1)))) ∧ Below w.heap.size w w' := by
  have hl := h.1
  have hl' := h'.1
  have hmx := h.2.1
  have hmx' := h'.2.1
  unfold maxLen at hmx hmx'
  obtain ⟨r, hr⟩ : ∃ r, r = decide (xs.map (fun x => x.1) = ys.map (fun x => x.1)) := ⟨_, rfl⟩
  rw [← hr]
  have HR := hide hr
  clear hr
  by_cases hn : n = n'
  · subst hn
    have hne : ((n : Int) != (n : Int)) = false := by simp
    go_enter Tryz.func205, Tryz.ntmps205
    go_wp2
    go_loopw [17] (fun i wr => ∃ k : Nat, k ≤ n ∧ i = .int .i64 k ∧ (xs.map (fun x => x.1)).take k = (ys.map (fun x => x.1)).take k ∧ Below w.heap.size w wr) (fun i _ => n - (intOf i).toNat)
    case atStart => exact ⟨0, Nat.zero_le _, rfl, by simp, Below.refl _ _⟩
    case round =>
      obtain ⟨k, hk, rfl, hT, hB⟩ := hrel
      by_cases hlt : k < n
      · have hlt' : (k : Int) < (n : Int) := by omega
        obtain ⟨b, off, rfl, q0, q1, q2, q3⟩ := (h.below hB).at k hlt
        obtain ⟨b', off', rfl, p0, p1, p2, p3⟩ := (h'.below hB).at k hlt
        have i1 := (h.below hB).2.2.2.1 k hlt
        have i2 := (h'.below hB).2.2.2.1 k hlt
        have HGO := hide (show (xs.getD k zPB).1 = (ys.getD k zPB).1 → (xs.map (fun x => x.1)).take (k + 1) = (ys.map (fun x => x.1)).take (k + 1) from fun he => take_succ_eq zPB.1 _ _ k hT (by simp; omega) (by simp; omega) (by rw [map_getD _ _ _ zPB _ (by omega), map_getD _ _ _ zPB _ (by omega), he]))
        have HNO := hide (show (xs.getD k zPB).1 ≠ (ys.getD k zPB).1 → r = false from fun he => by
          rw [HR.out, decide_eq_false_iff_not]
          intro e
          have e2 := congrArg (fun l => l.getD k zPB.1) e
          try simp only at e2
          rw [map_getD _ _ _ zPB _ (by omega), map_getD _ _ _ zPB _ (by omega)] at e2
          exact he e2)
        clear hT
        unfold svP at q1 p1
        generalize xs.getD k zPB = x at *
        generalize ys.getD k zPB = y at *
        obtain ⟨⟨xt, xb, xd, xz⟩, xa, xc⟩ := x
        obtain ⟨⟨yt, yb, yd, yz⟩, ya, yc⟩ := y
        dsimp only at q0 q1 q2 q3 p0 p1 p2 p3 i1 i2 HGO HNO
        have hlb := World.block_lt_of_cell? _ _ q0
        have hlb' := World.block_lt_of_cell? _ _ p0
        have HB2 : Below wr.heap.size wr ((wr.alloc (.cells #[.int .i64 xt, .slice xa xb.length xc, .int .i64 xd, .int .i64 xz] 138)).alloc (.cells #[.int .i64 yt, .slice ya yb.length yc, .int .i64 yd, .int .i64 yz] 138)) := ((Below.refl _ _).alloc (Nat.le_refl _) _).alloc (by simp) _
        have HSP := hide (samePlace_any xt xd xz xa xb.length xc xb yt yd yz ya yb.length yc yb _ (i1.below HB2) (i2.below HB2))
        have HB3 := hide (hB.trans (HB2.mono hB.size))
        clear i1 i2 HB2 hB
        by_cases he : (⟨xt, xb, xd, xz⟩ : Pl) = ⟨yt, yb, yd, yz⟩
        · rw [decide_eq_true he] at HSP
          have HG := hide (HGO.out he)
          clear he HGO HNO
          go_wp2_with fail
          refine HSP.out.mono ?_
          rintro e w1 ⟨rfl, hb1⟩
          have HB4 := hide (HB3.out.trans (hb1.mono HB3.out.size))
          clear q0 q1 q2 q3 p0 p1 p2 p3 hb1 HSP
          go_wp2
          go_roundw
          case rel => exact ⟨k + 1, by omega, by go_num, HG.out, HB4.out⟩
          case measure => simp [intOf]; omega
        · rw [decide_eq_false he] at HSP
          have HG := hide (HNO.out he)
          clear he HGO HNO
          go_wp2_with fail
          refine HSP.out.mono ?_
          rintro e w1 ⟨rfl, hb1⟩
          have HB4 := hide (HB3.out.trans (hb1.mono HB3.out.size))
          clear q0 q1 q2 q3 p0 p1 p2 p3 hb1 HSP
          go_wp2
          go_ret
          exact ⟨ret_bool HG.out.symm, HB4.out⟩
      · have hf : Hid (r = true) := by
          show _ = _
          rw [HR.out]
          simp
          rw [List.take_of_length_le (by simp; omega), List.take_of_length_le (by simp; omega)] at hT
          exact hT
        clear hT
        go_wp2
        go_ret
        exact ⟨ret_bool hf.out.symm, hB⟩
  · have hf : Hid (r = false) := by
      show _ = _
      rw [HR.out, decide_eq_false_iff_not]
      intro e
      have := congrArg List.length e
      simp at this
      omega
    have hne : ((n : Int) != (n' : Int)) = true := by simp; omega
    go_enter Tryz.func205, Tryz.ntmps205
    go_wp2
    go_ret
    exact ⟨ret_bool hf.out.symm, Below.refl _ _⟩
set_option maxHeartbeats 2000000 in
theorem equalFuncT_any (a a' : Option Addr) (n cap n' cap' : Nat) (xs ys : List TB) (w : World) (h : TsS w a n cap xs) (h' : TsS w a' n' cap' ys) :
    Calls Tryz.prog 207 #[.slice a n cap, .slice a' n' cap', .func (.func 208) #[] #[]] w fun e w' => e = .returned (.bool (decide (xs.map (fun x => x.1) = ys.map (fun x => x.1)))) ∧ Below w.heap.size w w' := by
  have hl := h.1
  have hl' := h'.1
  have hmx := h.2.1
  have hmx' := h'.2.1
  unfold maxLen at hmx hmx'
  obtain ⟨r, hr⟩ : ∃ r, r = decide (xs.map (fun x => x.1) = ys.map (fun x => x.1)) := ⟨_, rfl⟩
  rw [← hr]
  have HR := hide hr
  clear hr
  by_cases hn : n = n'
  · subst hn
    have hne : ((n : Int) != (n : Int)) = false := by simp
    go_enter Tryz.func207, Tryz.ntmps207
    go_wp2
    go_loopw [17] (fun i wr => ∃ k : Nat, k ≤ n ∧ i = .int .i64 k ∧ (xs.map (fun x => x.1)).take k = (ys.map (fun x => x.1)).take k ∧ Below w.heap.size w wr) (fun i _ => n - (intOf i).toNat)
    case atStart => exact ⟨0, Nat.zero_le _, rfl, by simp, Below.refl _ _⟩
    case round =>
      obtain ⟨k, hk, rfl, hT, hB⟩ := hrel
      by_cases hlt : k < n
      · have hlt' : (k : Int) < (n : Int) := by omega
        obtain ⟨b, off, rfl, q0⟩ := (h.below hB).at k hlt
        obtain ⟨b', off', rfl, p0⟩ := (h'.below hB).at k hlt
        have i1 := (h.below hB).2.2.2.1 k hlt
        have i2 := (h'.below hB).2.2.2.1 k hlt
        have HGO := hide (show (xs.getD k zTB).1 = (ys.getD k zTB).1 → (xs.map (fun x => x.1)).take (k + 1) = (ys.map (fun x => x.1)).take (k + 1) from fun he => take_succ_eq zTB.1 _ _ k hT (by simp; omega) (by simp; omega) (by rw [map_getD _ _ _ zTB _ (by omega), map_getD _ _ _ zTB _ (by omega), he]))
        have HNO := hide (show (xs.getD k zTB).1 ≠ (ys.getD k zTB).1 → r = false from fun he => by
          rw [HR.out, decide_eq_false_iff_not]
          intro e
          have e2 := congrArg (fun l => l.getD k zTB.1) e
          try simp only at e2
          rw [map_getD _ _ _ zTB _ (by omega), map_getD _ _ _ zTB _ (by omega)] at e2
          exact he e2)
        clear hT
        unfold svT at q0 p0
        generalize xs.getD k zTB = x at *
        generalize ys.getD k zTB = y at *
        obtain ⟨xl, xa, xc⟩ := x
        obtain ⟨yl, ya, yc⟩ := y
        dsimp only at q0 p0 i1 i2 HGO HNO
        have HSP := hide (sliceEqT_any xa ya xl.length xc yl.length yc xl yl _ i1 i2)
        have HB3 := hide hB
        clear i1 i2 hB
        by_cases he : xl = yl
        · rw [decide_eq_true he] at HSP
          have HG := hide (HGO.out he)
          clear he HGO HNO
          go_wp2_with fail
          refine HSP.out.mono ?_
          rintro e w1 ⟨rfl, hb1⟩
          have HB4 := hide (HB3.out.trans (hb1.mono HB3.out.size))
          clear q0 p0 hb1 HSP
          go_wp2
          go_roundw
          case rel => exact ⟨k + 1, by omega, by go_num, HG.out, HB4.out⟩
          case measure => simp [intOf]; omega
        · rw [decide_eq_false he] at HSP
          have HG := hide (HNO.out he)
          clear he HGO HNO
          go_wp2_with fail
          refine HSP.out.mono ?_
          rintro e w1 ⟨rfl, hb1⟩
          have HB4 := hide (HB3.out.trans (hb1.mono HB3.out.size))
          clear q0 p0 hb1 HSP
          go_wp2
          go_ret
          exact ⟨ret_bool HG.out.symm, HB4.out⟩
      · have hf : Hid (r = true) := by
          show _ = _
          rw [HR.out]
          simp
          rw [List.take_of_length_le (by simp; omega), List.take_of_length_le (by simp; omega)] at hT
          exact hT
        clear hT
        go_wp2
        go_ret
        exact ⟨ret_bool hf.out.symm, hB⟩
  · have hf : Hid (r = false) := by
      show _ = _
      rw [HR.out, decide_eq_false_iff_not]
      intro e
      have := congrArg List.length e
      simp at this
      omega
    have hne : ((n : Int) != (n' : Int)) = true := by simp; omega
    go_enter Tryz.func207, Tryz.ntmps207
    go_wp2
    go_ret
    exact ⟨ret_bool hf.out.symm, Below.refl _ _⟩
end Go.Proofs.YtngdgogjlpjjpaeGreat
