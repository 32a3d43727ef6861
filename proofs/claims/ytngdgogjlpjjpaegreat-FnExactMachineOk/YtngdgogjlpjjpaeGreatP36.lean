import Derived.Laws.AppendOwnNone
import Derived.Test.YtngdgogjlpjjpaeGreatP11
import Derived.Test.YtngdgogjlpjjpaeGreatP30
import Derived.Test.YtngdgogjlpjjpaeGreatP28
import Derived.Test.YtngdgogjlpjjpaeGreatP32
namespace Go.Proofs.YtngdgogjlpjjpaeGreat
open Go.RowKit Classical
set_option linter.unusedVariables false
set_option linter.unusedSimpArgs false
set_option maxRecDepth 100000
theorem aln_f {xs : List SlT} {i : Nat} (h : (xs.getD i zSl).1 = false) : aln xs i := fun k _ q => by have := q.1; rw [h] at this; cases this
set_option maxHeartbeats 16000000 in
theorem l7SlotOk_any (M : Mn) (i : Nat) (w : World) (h : MnD w M) (hi : i < M.ln) :
    Calls Tryz.prog 244 #[.agg #[.slice M.ma M.mn M.mc, .int .i64 M.cs, .int .i64 M.cw, .int .i64 M.ck, .int .i64 M.cd, .int .i64 M.pc, .slice M.ka M.kn M.kc, .slice M.fa M.fn M.fc, .slice M.ra M.rn M.rc, .slice M.oa M.on M.oc, .int .i64 M.md, .int .i64 M.bk, .slice M.la M.ln M.lc, .slice M.ha M.hn M.hc, .int .i64 M.tn], .int .i64 i] w (Yn (slk (pmS M.ms) M.tn (M.lz.getD i zSl) ∧ aln M.lz i) w) := by
  have hl := h.l.1
  have hmx := h.l.2.1
  unfold maxLen at hmx
  have hi' : (i : Int) < (M.ln : Int) := by omega
  obtain ⟨U, hU⟩ : ∃ U, U = w.alloc (.cells #[.slice M.ma M.mn M.mc, .int .i64 M.cs, .int .i64 M.cw, .int .i64 M.ck, .int .i64 M.cd, .int .i64 M.pc, .slice M.ka M.kn M.kc, .slice M.fa M.fn M.fc, .slice M.ra M.rn M.rc, .slice M.oa M.on M.oc, .int .i64 M.md, .int .i64 M.bk, .slice M.la M.ln M.lc, .slice M.ha M.hn M.hc, .int .i64 M.tn] 54) := ⟨_, rfl⟩
  have bU : Below w.heap.size w U := by rw [hU]; exact (Below.refl _ _).alloc (Nat.le_refl _) _
  have kU : Blk U w.heap.size #[.slice M.ma M.mn M.mc, .int .i64 M.cs, .int .i64 M.cw, .int .i64 M.ck, .int .i64 M.cd, .int .i64 M.pc, .slice M.ka M.kn M.kc, .slice M.fa M.fn M.fc, .slice M.ra M.rn M.rc, .slice M.oa M.on M.oc, .int .i64 M.md, .int .i64 M.bk, .slice M.la M.ln M.lc, .slice M.ha M.hn M.hc, .int .i64 M.tn] 54 := by rw [hU]; exact Blk.new _ _ _
  have HLU := hide (h.l.below bU)
  have HMU := hide (h.m.below bU)
  have HPQ := hide (pcm_pcq h.m)
  have HNO0 := hide (fun (k : Nat) (hk : k < i) (q : cmn (M.lz.getD i zSl) (M.lz.getD k zSl)) => aln_no hk q)
  have HST0 := hide (fun (k : Nat) (hF : ∀ j, j < k → ¬ cmn (M.lz.getD i zSl) (M.lz.getD j zSl)) (q : ¬ cmn (M.lz.getD i zSl) (M.lz.getD k zSl)) => aln_st hF q)
  have HYES := hide (show (∀ j, j < i → ¬ cmn (M.lz.getD i zSl) (M.lz.getD j zSl)) → aln M.lz i from fun q => q)
  have HAF := hide (fun q => aln_f (xs := M.lz) (i := i) q)
  clear h
  generalize M.la = la at *
  obtain ⟨g, f, rfl, q0, q1, q2, q3⟩ := HLU.out.at i hi _ _ _ _ rfl
  generalize M.lz.getD i zSl = x at *
  obtain ⟨x0, x1, x2, x3⟩ := x
  dsimp only at q0 q1 q2 q3
  obtain ⟨V, hV⟩ : ∃ V, V = U.alloc (.cells #[.bool x0, .int .i64 x1, .int .i64 x2, .int .i64 x3] 134) := ⟨_, rfl⟩
  have bV : Below U.heap.size U V := by rw [hV]; exact (Below.refl _ _).alloc (Nat.le_refl _) _
  have kV : Blk V U.heap.size #[.bool x0, .int .i64 x1, .int .i64 x2, .int .i64 x3] 134 := by rw [hV]; exact Blk.new _ _ _
  have BV := bU.trans (bV.mono bU.size)
  have kU' := kU.below bV
  have y12 : U.cell? ⟨w.heap.size, 12, none⟩ = some (.slice (some ⟨g, f, none⟩) M.ln M.lc) := kU.cell 12
  have HTH := hide (l6There_any M.ma M.mn M.mc M.ms x1 x2 V (HMU.out.s.below bV))
  rw [HPQ.out x1 x2] at HTH
  have HC := hide (fun (X : World) (hX : Below V.heap.size V X) => show (X.cell? ⟨w.heap.size, 0, none⟩ = some (.slice M.ma M.mn M.mc) ∧ X.cell? ⟨w.heap.size, 12, none⟩ = some (.slice (some ⟨g, f, none⟩) M.ln M.lc) ∧ X.cell? ⟨w.heap.size, 14, none⟩ = some (.int .i64 M.tn)) ∧ X.cell? ⟨U.heap.size, 0, none⟩ = some (.bool x0) ∧ X.cell? ⟨U.heap.size, 1, none⟩ = some (.int .i64 x1) ∧ X.cell? ⟨U.heap.size, 2, none⟩ = some (.int .i64 x2) ∧ X.cell? ⟨U.heap.size, 3, none⟩ = some (.int .i64 x3) from
    ⟨⟨(kU'.below hX).cell 0, (kU'.below hX).cell 12, (kU'.below hX).cell 14⟩, (kV.below hX).cell 0, (kV.below hX).cell 1, (kV.below hX).cell 2, (kV.below hX).cell 3⟩)
  have HLV := hide (HLU.out.below bV)
  have HBB := hide BV
  have HU := hide hU
  have HV := hide hV
  clear hU hV bU bV kU kU' kV BV HLU HMU HPQ
  obtain ⟨⟨p0, p12, p14⟩, s0, s1, s2, s3⟩ := HC.out V (Below.refl _ _)
  cases x0 with
  | false =>
    have HAL := hide (HAF.out rfl)
    rw [slk_f]
    clear HTH HC HNO0 HST0 HYES HAF HLV p0 p12 p14
    by_cases e1 : x1 = 0
    · by_cases e2 : x2 = 0
      · by_cases e3 : x3 = 0
        · subst e1 e2 e3
          go_enter Tryz.func244, Tryz.ntmps244
          go_wp2_with (rw [← HU.out])
          go_ret
          exact yn_t ⟨rfl, HAL.out⟩ (by have := HBB.out; rw [HV.out] at this; exact this)
        · have e3' : (x3 == 0) = false := by simp [e3]
          have HX := hide (show ¬ (false, x1, x2, x3) = zSl from fun q => e3 (by unfold zSl at q; simp at q; exact q.2.2))
          subst e1 e2
          clear e3
          go_enter Tryz.func244, Tryz.ntmps244
          go_wp2_with (first | rw [← HU.out] | rw [← HV.out])
          go_ret
          exact yn_f (fun q => HX.out q.1) HBB.out
      · have e2' : (x2 == 0) = false := by simp [e2]
        have HX := hide (show ¬ (false, x1, x2, x3) = zSl from fun q => e2 (by unfold zSl at q; simp at q; exact q.2.1))
        subst e1
        clear e2
        go_enter Tryz.func244, Tryz.ntmps244
        go_wp2_with (first | rw [← HU.out] | rw [← HV.out])
        go_ret
        exact yn_f (fun q => HX.out q.1) HBB.out
    · have e1' : (x1 == 0) = false := by simp [e1]
      have HX := hide (show ¬ (false, x1, x2, x3) = zSl from fun q => e1 (by unfold zSl at q; simp at q; exact q.1))
      clear e1
      go_enter Tryz.func244, Tryz.ntmps244
      go_wp2_with (first | rw [← HU.out] | rw [← HV.out])
      go_ret
      exact yn_f (fun q => HX.out q.1) HBB.out
  | true =>
    rw [slk_t]
    clear HAF
    by_cases c2 : 0 ≤ pcq (pmS M.ms) x1 x2
    · have HC2 := hide c2
      rw [decide_eq_true c2] at HTH
      clear c2
      go_enter Tryz.func244, Tryz.ntmps244
      go_wp2_with (first | rw [← HU.out] | rw [← HV.out])
      refine HTH.out.mono ?_
      rintro e X1 ⟨rfl, hb1⟩
      have HX1 := hide hb1
      have HB1 := hide (HBB.out.trans (hb1.mono HBB.out.size))
      clear p0 p12 p14 s0 s1 s2 s3 q0 q1 q2 q3 y12
      obtain ⟨⟨p0, p12, p14⟩, s0, s1, s2, s3⟩ := HC.out X1 hb1
      clear hb1 HTH HU HV
      by_cases c3 : x2 < 0
      · go_wp2
        go_ret
        exact yn_f (fun q => by have := q.1.1; omega) HB1.out
      by_cases c4 : x3 < 1
      · go_wp2
        go_ret
        exact yn_f (fun q => by have := q.1.2.2.1; omega) HB1.out
      by_cases c5 : M.tn < x3
      · go_wp2
        go_ret
        exact yn_f (fun q => by have := q.1.2.2.2; omega) HB1.out
      have HSK := hide (show 0 ≤ x2 ∧ 0 ≤ pcq (pmS M.ms) x1 x2 ∧ 1 ≤ x3 ∧ x3 ≤ M.tn from ⟨by omega, HC2.out, by omega, by omega⟩)
      go_wp2
      clear p0 p12 p14 s0 s1 s2 s3
      go_loopw [6] (fun j wr => ∃ k : Nat, k ≤ i ∧ j = .int .i64 k ∧ (∀ j, j < k → ¬ cmn (true, x1, x2, x3) (M.lz.getD j zSl)) ∧ Below V.heap.size V wr) (fun j _ => i - (intOf j).toNat)
      case atStart => exact ⟨0, Nat.zero_le _, rfl, fun j hj => absurd hj (by omega), HX1.out⟩
      case round =>
        obtain ⟨k, hk, rfl, hF, hB⟩ := hrel
        by_cases hlt : k < i
        · have hlt' : (k : Int) < (i : Int) := by omega
          have hkn : (k : Int) < (M.ln : Int) := by omega
          obtain ⟨g', f', hg', q0, q1, q2, q3⟩ := (HLV.out.below hB).at k (by omega) _ _ _ _ rfl
          simp at hg'
          obtain ⟨rfl, rfl⟩ := hg'
          obtain ⟨⟨r0, r12, r14⟩, _⟩ := HC.out wr hB
          have HNO := hide (HNO0.out k hlt)
          have HST := hide (HST0.out k hF)
          generalize M.lz.getD k zSl = y at *
          obtain ⟨o0, o1, o2, o3⟩ := y
          dsimp only at q0 q1 q2 q3
          obtain ⟨W, hW⟩ : ∃ W, W = wr.alloc (.cells #[.bool o0, .int .i64 o1, .int .i64 o2, .int .i64 o3] 134) := ⟨_, rfl⟩
          have bW : Below wr.heap.size wr W := by rw [hW]; exact (Below.refl _ _).alloc (Nat.le_refl _) _
          have kW : Blk W wr.heap.size #[.bool o0, .int .i64 o1, .int .i64 o2, .int .i64 o3] 134 := by rw [hW]; exact Blk.new _ _ _
          have BW := hB.trans (bW.mono hB.size)
          have HBW := hide BW
          have HW := hide hW
          obtain ⟨_, t0, t1, t2, t3⟩ := HC.out W BW
          have p0 : W.cell? ⟨wr.heap.size, 0, none⟩ = some (.bool o0) := kW.cell 0
          have p1 : W.cell? ⟨wr.heap.size, 1, none⟩ = some (.int .i64 o1) := kW.cell 1
          have p2 : W.cell? ⟨wr.heap.size, 2, none⟩ = some (.int .i64 o2) := kW.cell 2
          have p3 : W.cell? ⟨wr.heap.size, 3, none⟩ = some (.int .i64 o3) := kW.cell 3
          clear hW bW kW BW hB hF HNO0 HST0 HYES HLV
          cases o0 with
          | false =>
            have HN := hide (HST.out (fun q => by have := q.2.1; cases this))
            clear HNO HST
            go_wp2_with (rw [← HW.out])
            go_roundw
            case rel => exact ⟨k + 1, by omega, by go_num, HN.out, HBW.out⟩
            case measure => simp [intOf]; omega
          | true =>
            by_cases c3 : o3 = x3
            · subst c3
              have HN := hide (HNO.out ⟨rfl, rfl, .inl rfl⟩)
              clear HNO HST
              go_wp2_with (rw [← HW.out])
              go_ret
              exact yn_f (fun q => HN.out q.2) (HBB.out.trans (HBW.out.mono HBB.out.size))
            · have c3' : (o3 == x3) = false := by simp [c3]
              by_cases c1 : o1 = x1
              · by_cases c2 : o2 = x2
                · have HN := hide (HNO.out ⟨rfl, rfl, .inr ⟨c1, c2⟩⟩)
                  subst c1 c2
                  clear HNO HST c3
                  go_wp2_with (rw [← HW.out])
                  go_ret
                  exact yn_f (fun q => HN.out q.2) (HBB.out.trans (HBW.out.mono HBB.out.size))
                · have c2' : (o2 == x2) = false := by simp [c2]
                  have HN := hide (HST.out (fun q => by rcases q.2.2 with e | e; exact c3 e; exact c2 e.2))
                  subst c1
                  clear HNO HST c3 c2
                  go_wp2_with (rw [← HW.out])
                  go_roundw
                  case rel => exact ⟨k + 1, by omega, by go_num, HN.out, HBW.out⟩
                  case measure => simp [intOf]; omega
              · have c1' : (o1 == x1) = false := by simp [c1]
                have HN := hide (HST.out (fun q => by rcases q.2.2 with e | e; exact c3 e; exact c1 e.1))
                clear HNO HST c3 c1
                go_wp2_with (rw [← HW.out])
                go_roundw
                case rel => exact ⟨k + 1, by omega, by go_num, HN.out, HBW.out⟩
                case measure => simp [intOf]; omega
        · have HY := hide (HYES.out (fun j hj => hF j (by omega)))
          have HB := hide hB
          clear hB hF
          go_wp2
          go_ret
          exact yn_t ⟨HSK.out, HY.out⟩ (HBB.out.trans (HB.out.mono HBB.out.size))
    · have HC2 := hide c2
      rw [decide_eq_false c2] at HTH
      clear c2
      go_enter Tryz.func244, Tryz.ntmps244
      go_wp2_with (first | rw [← HU.out] | rw [← HV.out])
      refine HTH.out.mono ?_
      rintro e X1 ⟨rfl, hb1⟩
      have HB1 := hide (HBB.out.trans (hb1.mono HBB.out.size))
      clear hb1 HTH HC HU HV
      go_wp2
      go_ret
      exact yn_f (fun q => by have h1 := HC2.out; have h2 := q.1.2.1; omega) HB1.out
def upTo (n : Nat) : List Int := (List.range n).map (fun i : Nat => (i : Int))
theorem upTo_len (n : Nat) : (upTo n).length = n := by simp [upTo]
theorem upTo_at (n k : Nat) (h : k < n) : (upTo n).getD k 0 = (k : Int) := by simp [upTo, List.getD_eq_getElem?_getD, h]
set_option maxHeartbeats 1000000 in
theorem slotsFor_many (L : Lay) (a0 : Option Addr) (c0 : Nat) (xs : List PB) (a2 : Option Addr) (c2 : Nat) (a5 : Option Addr) (c5 : Nat) (ts : List TB) (b : Int) (l : Nat) (w : World) (hb : ¬ b = -1) (h0 : ¬ l = 0) (h1 : l ≤ 1048576) :
    Calls Tryz.prog 101 #[.agg #[.slice a0 xs.length c0, .int .i64 L.stack, .slice a2 l c2, .int .i64 L.flash, .int .i64 L.ram, .slice a5 ts.length c5], .int .i64 b] w fun e w' => ∃ g, e = .returned (.slice (some ⟨g, 0, none⟩) l l) ∧ RowI w' g (upTo l) ∧ Below w.heap.size w w' := by
  obtain ⟨i0, hi, hz0, hz1, hz2⟩ := info_parts infoI
  have hz : (b == -1) = false := by simpa using hb
  have hl0 : ((l : Int) == 0) = false := by simpa using h0
  obtain ⟨W, hW⟩ : ∃ W, W = w.alloc (.cells #[.slice a0 xs.length c0, .int .i64 L.stack, .slice a2 l c2, .int .i64 L.flash, .int .i64 L.ram, .slice a5 ts.length c5] 36) := ⟨_, rfl⟩
  have HBW := hide (show Below w.heap.size w W by rw [hW]; exact (Below.refl _ _).alloc (Nat.le_refl _) _)
  have k0 : Blk W w.heap.size #[.slice a0 xs.length c0, .int .i64 L.stack, .slice a2 l c2, .int .i64 L.flash, .int .i64 L.ram, .slice a5 ts.length c5] 36 := by rw [hW]; exact Blk.new w _ _
  have d2 : W.cell? ⟨w.heap.size, 2, none⟩ = some (.slice a2 l c2) := k0.cell 2
  have HW := hide hW
  clear hW k0
  generalize xs.length = n at *
  generalize ts.length = k at *
  go_enter Tryz.func101, Tryz.ntmps101
  go_wp2_with (first | rw [← HW.out] | (at_make; refine wpList_make_full _ rfl _ _ 24 rfl W.heap.size 3 i0 (.int .i64 0) 1 Tryz.underlying24 hi hz0 hz1 .i64 .i64 _ _ l rfl rfl rfl rfl (by rw [hz2]; omega) (by unfold maxLen; omega) (Nat.le_refl _) ?_; intro w1 hown hgr))
  have hrow := rowI_of_made hown
  have hbel := below_grown hgr
  clear hown hgr hi hz0 hz1 hz2 d2
  go_loopw [6, 22] (fun _ i wr => ∃ k : Nat, k ≤ l ∧ i = .int .i64 k ∧ RowI wr W.heap.size (mid (upTo l) k) ∧ Below W.heap.size W wr) (fun _ i _ => l - (intOf i).toNat)
  case atStart => exact ⟨0, Nat.zero_le _, rfl, by rw [mid_zero, upTo_len]; exact hrow, hbel⟩
  case round =>
    obtain ⟨k, hk, rfl, hR, hB⟩ := hrel
    clear hrow hbel
    by_cases hlt : k < l
    · have hlt' : (k : Int) < (l : Int) := by omega
      have hgk : wr.cell? ⟨W.heap.size, k, none⟩ = some (.int .i64 ((mid (upTo l) k).getD k 0)) := hR.cell k (by rw [mid_len, upTo_len]; omega)
      have hfk : wr.frozen? ⟨W.heap.size, k, none⟩ = false := hR.frozen k
      have R' := hR.set k ((upTo l).getD k 0)
      rw [mid_set (upTo l) k (by rw [upTo_len]; omega), upTo_at l k hlt] at R'
      have B' : Below W.heap.size W (wr.setCell ⟨W.heap.size, k, none⟩ (.int .i64 (k : Int))) := hB.setCell (Nat.le_refl _) _
      have HR := hide R'
      have HB := hide B'
      generalize (mid (upTo l) k).getD k 0 = z0 at *
      clear hR hB R' B'
      go_wp2
      go_roundw
      case rel => exact ⟨k + 1, by omega, by go_num, HR.out, HB.out⟩
      case measure => simp [intOf]; omega
    · have e : Hid (k = l) := by show k = l; omega
      have HX := hide (And.intro hR hB)
      clear hR hB
      go_wp2
      go_ret
      refine ⟨_, rfl, ?_, HBW.out.trans (HX.out.2.mono HBW.out.size)⟩
      have := HX.out.1
      have e2 : mid (upTo l) l = upTo l := by have := mid_all (upTo l); rwa [upTo_len] at this
      rw [e.out, e2] at this
      exact this
theorem ORg.bl {w w' : World} {base : Nat} {v : Value} {rs : List Rg} (h : ORg w base v rs) (hb : Below w.heap.size w w') : ORg w' base v rs := turn_or' (turn_below hb) h (fun _ _ h => h)
section
variable {cf : Array Value} {tc : TypeId} {ct : Array Value} {tt : TypeId} {base : Nat} {R : List Rg} {w W5 W W' : World} {p : Option Addr} {k q : Nat}
end
theorem Blk.tg3 {w : World} {b : Nat} {t : TypeId} {v0 v1 v2 : Value} (h : Blk w b #[v0, v1, v2] t) : w.cell? ⟨b, 0, none⟩ = some v0 ∧ w.cell? ⟨b, 1, none⟩ = some v1 ∧ w.cell? ⟨b, 2, none⟩ = some v2 := ⟨h.cell 0, h.cell 1, h.cell 2⟩
end Go.Proofs.YtngdgogjlpjjpaeGreat
