import Derived.Test.YtngdgogjlpjjpaeGreatP31
namespace Go.Proofs.YtngdgogjlpjjpaeGreat
open Go.RowKit Classical
set_option linter.unusedVariables false
set_option linter.unusedSimpArgs false
set_option maxRecDepth 100000
theorem pcq_b {ps : List PMod} {m b : Int} (h : 0 ≤ pcq ps m b) (hb : b ≠ -1) : 0 ≤ b := by
  unfold pcq at h
  by_cases c1 : 0 ≤ m ∧ m < (ps.length : Int)
  · rw [if_pos c1, if_neg hb] at h
    by_cases c2 : 0 ≤ b ∧ b < ((ps.getD m.toNat zP).bl.length : Int)
    · exact c2.1
    · rw [if_neg c2] at h; exact absurd h (by decide)
  · rw [if_neg c1] at h; exact absurd h (by decide)
theorem slk_f {ps : List PMod} {T x1 x2 x3 : Int} : slk ps T (false, x1, x2, x3) ↔ (false, x1, x2, x3) = zSl := by unfold slk; simp
theorem slk_t {ps : List PMod} {T x1 x2 x3 : Int} : slk ps T (true, x1, x2, x3) ↔ 0 ≤ x2 ∧ 0 ≤ pcq ps x1 x2 ∧ 1 ≤ x3 ∧ x3 ≤ T := by unfold slk; simp
set_option maxHeartbeats 8000000 in
theorem slotOk_any (M : Mn) (x0 : Bool) (x1 x2 x3 : Int) (w : World) (h : MnD w M) :
    Calls Tryz.prog 236 #[.agg #[.slice M.ma M.mn M.mc, .int .i64 M.cs, .int .i64 M.cw, .int .i64 M.ck, .int .i64 M.cd, .int .i64 M.pc, .slice M.ka M.kn M.kc, .slice M.fa M.fn M.fc, .slice M.ra M.rn M.rc, .slice M.oa M.on M.oc, .int .i64 M.md, .int .i64 M.bk, .slice M.la M.ln M.lc, .slice M.ha M.hn M.hc, .int .i64 M.tn], .agg #[.bool x0, .int .i64 x1, .int .i64 x2, .int .i64 x3]] w (Yn (slk (pmS M.ms) M.tn (x0, x1, x2, x3)) w) := by
  obtain ⟨U, hU⟩ : ∃ U, U = w.alloc (.cells #[.slice M.ma M.mn M.mc, .int .i64 M.cs, .int .i64 M.cw, .int .i64 M.ck, .int .i64 M.cd, .int .i64 M.pc, .slice M.ka M.kn M.kc, .slice M.fa M.fn M.fc, .slice M.ra M.rn M.rc, .slice M.oa M.on M.oc, .int .i64 M.md, .int .i64 M.bk, .slice M.la M.ln M.lc, .slice M.ha M.hn M.hc, .int .i64 M.tn] 54) := ⟨_, rfl⟩
  have bU : Below w.heap.size w U := by rw [hU]; exact (Below.refl _ _).alloc (Nat.le_refl _) _
  have kU : Blk U w.heap.size #[.slice M.ma M.mn M.mc, .int .i64 M.cs, .int .i64 M.cw, .int .i64 M.ck, .int .i64 M.cd, .int .i64 M.pc, .slice M.ka M.kn M.kc, .slice M.fa M.fn M.fc, .slice M.ra M.rn M.rc, .slice M.oa M.on M.oc, .int .i64 M.md, .int .i64 M.bk, .slice M.la M.ln M.lc, .slice M.ha M.hn M.hc, .int .i64 M.tn] 54 := by rw [hU]; exact Blk.new _ _ _
  obtain ⟨V, hV⟩ : ∃ V, V = U.alloc (.cells #[.bool x0, .int .i64 x1, .int .i64 x2, .int .i64 x3] 134) := ⟨_, rfl⟩
  have bV : Below U.heap.size U V := by rw [hV]; exact (Below.refl _ _).alloc (Nat.le_refl _) _
  have kV : Blk V U.heap.size #[.bool x0, .int .i64 x1, .int .i64 x2, .int .i64 x3] 134 := by rw [hV]; exact Blk.new _ _ _
  have hUs : U.heap.size = w.heap.size + 1 := by rw [hU]; simp
  have BV := bU.trans (bV.mono bU.size)
  have kU' := kU.below bV
  have HIP := hide (isPiece_any M.ma M.mn M.mc M.ms x1 x2 V (h.m.s.below BV))
  rw [pcm_pcq h.m x1 x2] at HIP
  have HC := hide (fun (X : World) (hX : Below V.heap.size V X) => show (X.cell? ⟨w.heap.size, 0, none⟩ = some (.slice M.ma M.mn M.mc) ∧ X.cell? ⟨w.heap.size, 14, none⟩ = some (.int .i64 M.tn)) ∧ X.cell? ⟨w.heap.size + 1, 0, none⟩ = some (.bool x0) ∧ X.cell? ⟨w.heap.size + 1, 1, none⟩ = some (.int .i64 x1) ∧ X.cell? ⟨w.heap.size + 1, 2, none⟩ = some (.int .i64 x2) ∧ X.cell? ⟨w.heap.size + 1, 3, none⟩ = some (.int .i64 x3) from
    ⟨⟨(kU'.below hX).cell 0, (kU'.below hX).cell 14⟩, by rw [← hUs]; exact (kV.below hX).cell 0, by rw [← hUs]; exact (kV.below hX).cell 1, by rw [← hUs]; exact (kV.below hX).cell 2, by rw [← hUs]; exact (kV.below hX).cell 3⟩)
  have HB := hide BV
  have HU := hide hU
  have HV := hide hV
  rw [← hUs] at HC
  have HUS := hide hUs
  clear hU hV bU bV kU kU' kV BV h hUs
  obtain ⟨⟨y0, y14⟩, s0, s1, s2, s3⟩ := HC.out V (Below.refl _ _)
  cases x0 with
  | false =>
    rw [slk_f]
    clear HIP HC y0 y14
    by_cases e1 : x1 = 0
    · by_cases e2 : x2 = 0
      · by_cases e3 : x3 = 0
        · subst e1 e2 e3
          go_enter Tryz.func236, Tryz.ntmps236
          go_wp2_with (first | rw [← HU.out] | rw [← HV.out])
          go_ret
          exact yn_t rfl (HB.out)
        · have e3' : (x3 == 0) = false := by simp [e3]
          have HX := hide (show ¬ (false, x1, x2, x3) = zSl from fun q => e3 (by unfold zSl at q; simp at q; exact q.2.2))
          subst e1 e2
          clear e3
          go_enter Tryz.func236, Tryz.ntmps236
          go_wp2_with (first | rw [← HU.out] | rw [← HV.out])
          go_ret
          exact yn_f HX.out (HB.out)
      · have e2' : (x2 == 0) = false := by simp [e2]
        have HX := hide (show ¬ (false, x1, x2, x3) = zSl from fun q => e2 (by unfold zSl at q; simp at q; exact q.2.1))
        subst e1
        clear e2
        go_enter Tryz.func236, Tryz.ntmps236
        go_wp2_with (first | rw [← HU.out] | rw [← HV.out])
        go_ret
        exact yn_f HX.out (HB.out)
    · have e1' : (x1 == 0) = false := by simp [e1]
      have HX := hide (show ¬ (false, x1, x2, x3) = zSl from fun q => e1 (by unfold zSl at q; simp at q; exact q.1))
      clear e1
      go_enter Tryz.func236, Tryz.ntmps236
      go_wp2_with (first | rw [← HU.out] | rw [← HV.out])
      go_ret
      exact yn_f HX.out (HB.out)
  | true =>
    rw [slk_t]
    by_cases c1 : x2 = -1
    · subst c1
      have e1 : ((-1 : Int) != -1) = false := by decide
      clear HIP HC
      go_enter Tryz.func236, Tryz.ntmps236
      go_wp2_with (first | rw [← HU.out] | rw [← HV.out])
      go_ret
      exact yn_f (by simp) HB.out
    have c1' : (x2 != -1) = true := by simp [c1]
    by_cases c2 : 0 ≤ pcq (pmS M.ms) x1 x2
    · have HX2 := hide (pcq_b c2 c1)
      have HC2 := hide c2
      rw [decide_eq_true c2] at HIP
      clear c2 c1
      go_enter Tryz.func236, Tryz.ntmps236
      go_wp2_with (first | rw [← HU.out] | rw [← HV.out])
      refine HIP.out.mono ?_
      rintro e X1 ⟨rfl, hb1⟩
      have HB1 := hide (HB.out.trans (hb1.mono HB.out.size))
      obtain ⟨⟨p0, p14⟩, t0, t1, t2, t3⟩ := HC.out X1 hb1
      clear hb1 HIP HC HU HV y0 y14 s0 s1 s2 s3
      by_cases c3 : x3 < 1
      · go_wp2
        go_ret
        exact yn_f (fun q => by omega) HB1.out
      go_wp2
      go_ret
      exact yn_d ⟨fun q => ⟨HX2.out, HC2.out, by omega, q⟩, fun q => q.2.2.2⟩ HB1.out
    · rw [decide_eq_false c2] at HIP
      have HC2 := hide c2
      clear c1 c2
      go_enter Tryz.func236, Tryz.ntmps236
      go_wp2_with (first | rw [← HU.out] | rw [← HV.out])
      refine HIP.out.mono ?_
      rintro e X1 ⟨rfl, hb1⟩
      have HB1 := hide (HB.out.trans (hb1.mono HB.out.size))
      clear hb1 HIP HC HU HV y0 y14 s0 s1 s2 s3
      go_wp2
      go_ret
      exact yn_f (fun q => by have h1 := HC2.out; have h2 := q.2.1; omega) HB1.out
theorem aln_no {xs : List SlT} {i k : Nat} (hk : k < i) (h : cmn (xs.getD i zSl) (xs.getD k zSl)) : ¬ aln xs i := fun q => q k hk h
theorem aln_st {xs : List SlT} {i k : Nat} (hF : ∀ j, j < k → ¬ cmn (xs.getD i zSl) (xs.getD j zSl)) (h : ¬ cmn (xs.getD i zSl) (xs.getD k zSl)) : ∀ j, j < k + 1 → ¬ cmn (xs.getD i zSl) (xs.getD j zSl) := fun j hj => by
  by_cases e : j = k
  · rw [e]; exact h
  · exact hF j (by omega)
set_option maxHeartbeats 8000000 in
theorem isAlone_any (a : Option Addr) (n c i : Nat) (xs : List SlT) (w : World) (h : QS clSl zSl w a n c xs) (hi : i < n) :
    Calls Tryz.prog 237 #[.slice a n c, .int .i64 i] w (Yn (aln xs i) w) := by
  have hl := h.1
  have hmx := h.2.1
  have hcp := h.2.2.2
  unfold maxLen at hmx
  have hi' : (i : Int) < (n : Int) := by omega
  obtain ⟨g, f, rfl, q0, q1, q2, q3⟩ := h.at i hi _ _ _ _ rfl
  have HNO0 := hide (fun (k : Nat) (hk : k < i) (q : cmn (xs.getD i zSl) (xs.getD k zSl)) => aln_no hk q)
  have HST0 := hide (fun (k : Nat) (hF : ∀ j, j < k → ¬ cmn (xs.getD i zSl) (xs.getD j zSl)) (q : ¬ cmn (xs.getD i zSl) (xs.getD k zSl)) => aln_st hF q)
  have HYES := hide (show (∀ j, j < i → ¬ cmn (xs.getD i zSl) (xs.getD j zSl)) → aln xs i from fun q => q)
  generalize xs.getD i zSl = x at *
  obtain ⟨x0, x1, x2, x3⟩ := x
  dsimp only at q0 q1 q2 q3
  obtain ⟨V, hV⟩ : ∃ V, V = w.alloc (.cells #[.bool x0, .int .i64 x1, .int .i64 x2, .int .i64 x3] 134) := ⟨_, rfl⟩
  have bV : Below w.heap.size w V := by rw [hV]; exact (Below.refl _ _).alloc (Nat.le_refl _) _
  have kV : Blk V w.heap.size #[.bool x0, .int .i64 x1, .int .i64 x2, .int .i64 x3] 134 := by rw [hV]; exact Blk.new _ _ _
  have HH := hide (h.below bV)
  have HV := hide hV
  have HBK := hide (And.intro bV kV)
  have HRE := hide (Below.refl V.heap.size V)
  have hic : (i : Int) ≤ (c : Int) := by omega
  clear hV bV kV h
  go_enter Tryz.func237, Tryz.ntmps237
  go_wp2_with (rw [← HV.out])
  clear q0 q1 q2 q3 HV
  go_loopw [16] (fun j wr => ∃ k : Nat, k ≤ i ∧ j = .int .i64 k ∧ (∀ j, j < k → ¬ cmn (x0, x1, x2, x3) (xs.getD j zSl)) ∧ Below V.heap.size V wr) (fun j _ => i - (intOf j).toNat)
  case atStart => exact ⟨0, Nat.zero_le _, rfl, fun j hj => absurd hj (by omega), HRE.out⟩
  case round =>
    obtain ⟨k, hk, rfl, hF, hB⟩ := hrel
    by_cases hlt : k < i
    · have hlt' : (k : Int) < (i : Int) := by omega
      obtain ⟨g', f', hg', q0, q1, q2, q3⟩ := (HH.out.below hB).at k (by omega) _ _ _ _ rfl
      simp at hg'
      obtain ⟨rfl, rfl⟩ := hg'
      have HNO := hide (HNO0.out k hlt)
      have HST := hide (HST0.out k hF)
      generalize xs.getD k zSl = y at *
      obtain ⟨o0, o1, o2, o3⟩ := y
      dsimp only at q0 q1 q2 q3
      obtain ⟨W, hW⟩ : ∃ W, W = wr.alloc (.cells #[.bool o0, .int .i64 o1, .int .i64 o2, .int .i64 o3] 134) := ⟨_, rfl⟩
      have bW : Below wr.heap.size wr W := by rw [hW]; exact (Below.refl _ _).alloc (Nat.le_refl _) _
      have kW : Blk W wr.heap.size #[.bool o0, .int .i64 o1, .int .i64 o2, .int .i64 o3] 134 := by rw [hW]; exact Blk.new _ _ _
      have BW := hB.trans (bW.mono hB.size)
      have HBW := hide BW
      have HW := hide hW
      have k2 := HBK.out.2.below BW
      have t0 : W.cell? ⟨w.heap.size, 0, none⟩ = some (.bool x0) := k2.cell 0
      have t1 : W.cell? ⟨w.heap.size, 1, none⟩ = some (.int .i64 x1) := k2.cell 1
      have t2 : W.cell? ⟨w.heap.size, 2, none⟩ = some (.int .i64 x2) := k2.cell 2
      have t3 : W.cell? ⟨w.heap.size, 3, none⟩ = some (.int .i64 x3) := k2.cell 3
      have p0 : W.cell? ⟨wr.heap.size, 0, none⟩ = some (.bool o0) := kW.cell 0
      have p1 : W.cell? ⟨wr.heap.size, 1, none⟩ = some (.int .i64 o1) := kW.cell 1
      have p2 : W.cell? ⟨wr.heap.size, 2, none⟩ = some (.int .i64 o2) := kW.cell 2
      have p3 : W.cell? ⟨wr.heap.size, 3, none⟩ = some (.int .i64 o3) := kW.cell 3
      clear hW bW kW BW k2 hB hF HNO0 HST0 HYES HH HRE
      cases x0 with
      | false =>
        have HN := hide (HST.out (fun q => by have := q.1; cases this))
        clear HNO HST
        go_wp2_with (rw [← HW.out])
        go_roundw
        case rel => exact ⟨k + 1, by omega, by go_num, HN.out, HBW.out⟩
        case measure => simp [intOf]; omega
      | true =>
        cases o0 with
        | false =>
          have HN := hide (HST.out (fun q => by have := q.2.1; cases this))
          clear HNO HST
          go_wp2_with (rw [← HW.out])
          go_roundw
          case rel => exact ⟨k + 1, by omega, by go_num, HN.out, HBW.out⟩
          case measure => simp [intOf]; omega
        | true =>
          by_cases c3 : o3 = x3
          · subst c3
            have HN := hide (HNO.out ⟨rfl, rfl, .inl rfl⟩)
            clear HNO HST
            go_wp2_with (rw [← HW.out])
            go_ret
            exact yn_f HN.out (HBK.out.1.trans (HBW.out.mono HBK.out.1.size))
          · have c3' : (o3 == x3) = false := by simp [c3]
            by_cases c1 : o1 = x1
            · by_cases c2 : o2 = x2
              · have HN := hide (HNO.out ⟨rfl, rfl, .inr ⟨c1, c2⟩⟩)
                subst c1 c2
                clear HNO HST c3
                go_wp2_with (rw [← HW.out])
                go_ret
                exact yn_f HN.out (HBK.out.1.trans (HBW.out.mono HBK.out.1.size))
              · have c2' : (o2 == x2) = false := by simp [c2]
                have HN := hide (HST.out (fun q => by rcases q.2.2 with e | e; exact c3 e; exact c2 e.2))
                subst c1
                clear HNO HST c3 c2
                go_wp2_with (rw [← HW.out])
                go_roundw
                case rel => exact ⟨k + 1, by omega, by go_num, HN.out, HBW.out⟩
                case measure => simp [intOf]; omega
            · have c1' : (o1 == x1) = false := by simp [c1]
              have HN := hide (HST.out (fun q => by rcases q.2.2 with e | e; exact c3 e; exact c1 e.1))
              clear HNO HST c3 c1
              go_wp2_with (rw [← HW.out])
              go_roundw
              case rel => exact ⟨k + 1, by omega, by go_num, HN.out, HBW.out⟩
              case measure => simp [intOf]; omega
    · have HY := hide (HYES.out (fun j hj => hF j (by omega)))
      have HB := hide hB
      clear hB hF
      go_wp2
      go_ret
      exact yn_t HY.out (HBK.out.1.trans (HB.out.mono HBK.out.1.size))
end Go.Proofs.YtngdgogjlpjjpaeGreat
