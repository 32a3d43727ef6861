import Derived.Test.YtngdgogjlpjjpaeGreatJ13
import Derived.Test.YtngdgogjlpjjpaeGreatJ18
import Derived.Test.YtngdgogjlpjjpaeGreatJ12
import Derived.Test.YtngdgogjlpjjpaeGreatJ14
import Derived.Test.YtngdgogjlpjjpaeGreatJ16
import Derived.Deep.RegionHeld3
namespace Go.Proofs.YtngdgogjlpjjpaeGreat
open Go.RowKit
set_option linter.unusedVariables false
set_option linter.unusedSimpArgs false
set_option maxRecDepth 100000

set_option maxHeartbeats 4000000 in
theorem iModuleOk_any (nm : ByteArray) (ta : Option Addr) (tn tc : Nat) (tz : List Int) (ba : Option Addr) (bn bc : Nat) (bl : List Bk) (da : Option Addr) (dn dc : Nat) (dz : List Int) (bss : Int) (ra : Option Addr) (rn rc : Nat) (rz : List Int) (ia : Option Addr) (im ic : Nat) (ss : List ByteArray) (ea : Option Addr) (en ec : Nat) (es : List Ex) (w : World)
    (h : MD w nm ta tn tc tz ba bn bc bl da dn dc dz bss ra rn rc rz ia im ic ss ea en ec es) :
    Calls Tryz.prog 225 #[.agg #[.string nm, .slice ta tn tc, .slice ba bn bc, .slice da dn dc, .int .i64 bss, .slice ra rn rc, .slice ia im ic, .slice ea en ec]] w fun e w' => e = .returned (.int .i64 (mdo nm tn tz bn bl dn bss rn rz im ss en es)) ∧ Below w.heap.size w w' := by
  obtain ⟨W, hW⟩ : ∃ W, W = w.alloc (.cells #[.string nm, .slice ta tn tc, .slice ba bn bc, .slice da dn dc, .int .i64 bss, .slice ra rn rc, .slice ia im ic, .slice ea en ec] 104) := ⟨_, rfl⟩
  have hB0 : Below w.heap.size w W := by rw [hW]; exact (Below.refl _ _).alloc (Nat.le_refl _) _
  have kb : Blk W w.heap.size #[.string nm, .slice ta tn tc, .slice ba bn bc, .slice da dn dc, .int .i64 bss, .slice ra rn rc, .slice ia im ic, .slice ea en ec] 104 := by rw [hW]; exact Blk.new _ _ _
  obtain ⟨r, hr⟩ : ∃ r, r = mdo nm tn tz bn bl dn bss rn rz im ss en es := ⟨_, rfl⟩
  rw [← hr]
  unfold mdo at hr
  have HRR := hide hr
  clear hr
  have H0 := h.below hB0
  have hmd := h.d.2.1
  have htn := h.t.2.1
  have HN := hide (fun w => isName_any nm w h.n)
  have HCd := hide (fun w ht hb => codeOk_any nm ta tn tc tz ba bn bc bl (.slice da dn dc) (.slice ra rn rc) (.slice ia im ic) (.slice ea en ec) bss w ht hb)
  have HRl := hide (fun w h => relocsOk_any nm (.slice ta tn tc) (.slice ba bn bc) da dn dc bss ra rn rc rz (.slice ia im ic) (.slice ea en ec) w hmd h)
  have HIm := hide (fun w h => importsOk_any nm (.slice ta tn tc) (.slice ba bn bc) (.slice da dn dc) (.slice ra rn rc) (.slice ea en ec) bss ia im ic ss w h)
  have HEx := hide (fun w hb h => exportsOk_any nm ta tn tc ba bn bc bl (.slice da dn dc) (.slice ra rn rc) (.slice ia im ic) bss ea en ec es w htn hb h)
  have HU := hide (fun w => isUpTo_any bss 512 w)
  unfold maxLen at hmd
  obtain ⟨s0, s1⟩ := h.s
  clear h htn
  have HW := hide hW
  clear hW
  generalize nmo nm = a1 at *
  generalize cdo tn tz bn bl = a2 at *
  generalize rlo rn rz dn = a4 at *
  generalize imo im ss = a5 at *
  generalize exo tn bn bl en es = a6 at *
  obtain ⟨q0, q1, q2, q3, q4, q5, q6, q7⟩ := kb.eight
  go_enter Tryz.func225, Tryz.ntmps225
  go_wp2_with (first | (rw [← HW.out]) | (go_at_call 264; refine (HN.out _).mono ?_; rintro e w1 ⟨rfl, rfl⟩; cases a1))
  · have e := hide (show r = 1 from by rw [HRR.out]; simp)
    go_ret
    exact ⟨ret_int e.out.symm, hB0⟩
  · refine (HCd.out _ H0.t H0.b).mono ?_
    rintro e w2 ⟨rfl, hb2⟩
    have kb2 := kb.below hb2
    have H2 := H0.below hb2
    have hB2 := hB0.trans (hb2.mono hB0.size)
    clear hb2 kb H0 hB0 q0 q1 q2 q3 q4 q5 q6 q7
    obtain ⟨q0, q1, q2, q3, q4, q5, q6, q7⟩ := kb2.eight
    cases a2
    · have e := hide (show r = 2 from by rw [HRR.out]; simp)
      go_wp2
      go_ret
      exact ⟨ret_int e.out.symm, hB2⟩
    · by_cases c1 : 512 < dn
      · have e := hide (show r = 3 from by rw [HRR.out]; simp [c1])
        have c1' : (512 : Int) < (dn : Int) := by omega
        go_wp2
        go_ret
        exact ⟨ret_int e.out.symm, hB2⟩
      · have c1' : ¬ (512 : Int) < (dn : Int) := by omega
        by_cases c2 : 0 ≤ bss ∧ bss ≤ 512
        · have HR2 := hide (show r = if a4 = false then 4 else if a5 = false then 5 else if a6 = false then 6 else 0 from by
            rw [HRR.out]
            simp only [Bool.true_eq_false, if_false, show ¬ (512 < dn ∨ bss < 0 ∨ 512 < bss) by omega])
          clear HRR
          rw [decide_eq_true c2] at HU
          go_wp2_with (go_at_call 165; refine (HU.out _).mono ?_; rintro e w1 ⟨rfl, rfl⟩)
          refine (HRl.out _ H2.r).mono ?_
          rintro e w3 ⟨rfl, hb3⟩
          have kb3 := kb2.below hb3
          have H3 := H2.below hb3
          have hB3 := hB2.trans (hb3.mono hB2.size)
          clear hb3 kb2 H2 hB2 q0 q1 q2 q3 q4 q5 q6 q7
          obtain ⟨q0, q1, q2, q3, q4, q5, q6, q7⟩ := kb3.eight
          cases a4
          · have e := hide (show r = 4 from by rw [HR2.out]; simp)
            go_wp2
            go_ret
            exact ⟨ret_int e.out.symm, hB3⟩
          · go_wp2_with fail
            refine (HIm.out _ H3.i).mono ?_
            rintro e w4 ⟨rfl, hb4⟩
            have kb4 := kb3.below hb4
            have H4 := H3.below hb4
            have hB4 := hB3.trans (hb4.mono hB3.size)
            clear hb4 kb3 H3 hB3 q0 q1 q2 q3 q4 q5 q6 q7
            obtain ⟨q0, q1, q2, q3, q4, q5, q6, q7⟩ := kb4.eight
            cases a5
            · have e := hide (show r = 5 from by rw [HR2.out]; simp)
              go_wp2
              go_ret
              exact ⟨ret_int e.out.symm, hB4⟩
            · go_wp2_with fail
              refine (HEx.out _ H4.b H4.e).mono ?_
              rintro e w5 ⟨rfl, hb5⟩
              have hB5 := hB4.trans (hb5.mono hB4.size)
              clear hb5 H4 hB4 kb4
              cases a6
              · have e := hide (show r = 6 from by rw [HR2.out]; simp)
                go_wp2
                go_ret
                exact ⟨ret_int e.out.symm, hB5⟩
              · have e := hide (show r = 0 from by rw [HR2.out]; simp)
                go_wp2
                go_ret
                exact ⟨ret_int e.out.symm, hB5⟩
        · rw [decide_eq_false c2] at HU
          have e := hide (show r = 3 from by rw [HRR.out]; simp only [Bool.true_eq_false, if_false, show (512 < dn ∨ bss < 0 ∨ 512 < bss) by omega, if_true])
          go_wp2_with (go_at_call 165; refine (HU.out _).mono ?_; rintro e w1 ⟨rfl, rfl⟩)
          go_ret
          exact ⟨ret_int e.out.symm, hB2⟩
end Go.Proofs.YtngdgogjlpjjpaeGreat

namespace Go.Proofs.YtngdgogjlpjjpaeGreat
open Go.RowKit
set_option linter.unusedVariables false

theorem take_eq_succ (xs ys : List Int) (k : Nat) (h : xs.take k = ys.take k) (hx : k < xs.length) (hy : k < ys.length) (he : xs.getD k 0 = ys.getD k 0) : xs.take (k + 1) = ys.take (k + 1) := by
  rw [List.take_succ_eq_append_getElem hx, List.take_succ_eq_append_getElem hy, h]
  simp [List.getD_eq_getElem?_getD, hx, hy] at he
  rw [he]

set_option maxHeartbeats 1000000 in
theorem eqByteS_any (a a' : Option Addr) (n cap n' cap' : Nat) (xs ys : List Int) (w : World) (h : BS w a n cap xs) (h' : BS w a' n' cap' ys) :
    Calls Tryz.prog 88 #[.slice a n cap, .slice a' n' cap'] w fun e w' => e = .returned (.bool (decide (xs = ys))) ∧ Below w.heap.size w w' := by
  obtain ⟨hl, hmx, hr, hc, _⟩ := h
  obtain ⟨hl', hmx', hr', hc', _⟩ := h'
  unfold maxLen at hmx hmx'
  by_cases hn : n = n'
  · subst hn
    have hne : ((n : Int) != (n : Int)) = false := by simp
    by_cases hn0 : n = 0
    · subst hn0
      obtain rfl : xs = [] := List.eq_nil_of_length_eq_zero hl
      obtain rfl : ys = [] := List.eq_nil_of_length_eq_zero hl'
      clear hc hc'
      go_enter Tryz.func88, Tryz.ntmps88
      go_wp2
      go_loop [5] (fun i => i = .int .i64 0) (fun _ => 0)
      case atStart => rfl
      case round =>
        obtain rfl := hrel
        go_wp2
        go_ret
        exact ⟨rfl, Below.refl _ _⟩
    · obtain ⟨b, off, rfl, hd⟩ := hc hn0
      obtain ⟨b', off', rfl, hd'⟩ := hc' hn0
      clear hc hc'
      go_enter Tryz.func88, Tryz.ntmps88
      go_wp2
      go_loopw [5] (fun i wr => ∃ k : Nat, k ≤ n ∧ i = .int .i64 k ∧ xs.take k = ys.take k ∧ Below w.heap.size w wr) (fun i _ => n - (intOf i).toNat)
      case atStart => exact ⟨0, Nat.zero_le _, rfl, by simp, Below.refl _ _⟩
      case round =>
        obtain ⟨k, hk, rfl, hT, hB⟩ := hrel
        by_cases hlt : k < n
        · have hlt' : (k : Int) < (n : Int) := by omega
          have hck : wr.cell? ⟨b, off + k, none⟩ = some (.int .u8 (xs.getD k 0)) := (hB.cell (World.block_lt_of_cell? w _ (hd k hlt))).trans (hd k hlt)
          have hck' : wr.cell? ⟨b', off' + k, none⟩ = some (.int .u8 (ys.getD k 0)) := (hB.cell (World.block_lt_of_cell? w _ (hd' k hlt))).trans (hd' k hlt)
          by_cases he : xs.getD k 0 = ys.getD k 0
          · have hS := take_eq_succ xs ys k hT (by omega) (by omega) he
            have HS : Hid (xs.take (k + 1) = ys.take (k + 1)) := hS
            rw [he] at hck
            clear hS hT hd hd' he
            generalize ys.getD k 0 = z at *
            have hz : (z != z) = false := by simp
            go_wp2
            go_quiet (fail)
            go_wp2
            go_roundw
            case rel => exact ⟨k + 1, by omega, by go_num, HS.out, below_drewN hB _⟩
            case measure => simp [intOf]; omega
          · have hf : Hid (decide (xs = ys) = false) := by
              show _ = _
              simp
              intro e
              exact he (by rw [e])
            have hz : (xs.getD k 0 != ys.getD k 0) = true := by simpa using he
            clear hT hd hd' he
            generalize ys.getD k 0 = z at *
            generalize xs.getD k 0 = z' at *
            go_wp2
            go_quiet (fail)
            go_wp2
            go_ret
            exact ⟨ret_bool hf.out.symm, below_drewN hB _⟩
        · have hf : Hid (decide (xs = ys) = true) := by
            show _ = _
            simp
            rw [List.take_of_length_le (by omega), List.take_of_length_le (by omega)] at hT
            exact hT
          clear hT hd hd'
          go_wp2
          go_ret
          exact ⟨ret_bool hf.out.symm, hB⟩
  · have hf : Hid (decide (xs = ys) = false) := by
      show _ = _
      simp
      intro e
      rw [e] at hl
      omega
    have hne : ((n : Int) != (n' : Int)) = true := by simp; omega
    clear hc hc'
    go_enter Tryz.func88, Tryz.ntmps88
    go_wp2
    go_ret
    exact ⟨ret_bool hf.out.symm, Below.refl _ _⟩
end Go.Proofs.YtngdgogjlpjjpaeGreat

namespace Go.Proofs.YtngdgogjlpjjpaeGreat
open Go.RowKit
set_option linter.unusedVariables false
set_option linter.unusedSimpArgs false
set_option maxRecDepth 100000

set_option maxHeartbeats 4000000 in
theorem eqModule_same (nm : ByteArray) (ta ta' : Option Addr) (tn tc tc' : Nat) (tz : List Int) (ba ba' : Option Addr) (bn bc bc' : Nat) (bl bl' : List Bk) (da da' : Option Addr) (dn dc dc' : Nat) (dz : List Int) (bss : Int) (ra ra' : Option Addr) (rn rc rc' : Nat) (rz : List Int) (ia ia' : Option Addr) (im ic ic' : Nat) (ss : List ByteArray) (ea ea' : Option Addr) (en ec ec' : Nat) (es : List Ex) (w : World) (h : MT w nm ta tn tc tz ba bn bc bl da dn dc dz bss ra rn rc rz ia im ic ss ea en ec es) (h' : MT w nm ta' tn tc' tz ba' bn bc' bl' da' dn dc' dz bss ra' rn rc' rz ia' im ic' ss ea' en ec' es) (hz : ∀ i, i < bn → (bl'.getD i zB).2.1 = (bl.getD i zB).2.1 ∧ (bl'.getD i zB).2.2.2 = (bl.getD i zB).2.2.2) :
    Calls Tryz.prog 58 #[.agg #[.string nm, .slice ta tn tc, .slice ba bn bc, .slice da dn dc, .int .i64 bss, .slice ra rn rc, .slice ia im ic, .slice ea en ec], .agg #[.string nm, .slice ta' tn tc', .slice ba' bn bc', .slice da' dn dc', .int .i64 bss, .slice ra' rn rc', .slice ia' im ic', .slice ea' en ec']] w fun e w' => e = .returned (.bool true) ∧ Below w.heap.size w w' := by
  have hB0 : Below w.heap.size w ((w.alloc (.cells #[.string nm, .slice ta tn tc, .slice ba bn bc, .slice da dn dc, .int .i64 bss, .slice ra rn rc, .slice ia im ic, .slice ea en ec] 104)).alloc (.cells #[.string nm, .slice ta' tn tc', .slice ba' bn bc', .slice da' dn dc', .int .i64 bss, .slice ra' rn rc', .slice ia' im ic', .slice ea' en ec'] 104)) := ((Below.refl _ _).alloc (Nat.le_refl _) _).alloc (by simp) _
  have u0 := (Blk.new w #[.string nm, .slice ta tn tc, .slice ba bn bc, .slice da dn dc, .int .i64 bss, .slice ra rn rc, .slice ia im ic, .slice ea en ec] 104).alloc (.cells #[.string nm, .slice ta' tn tc', .slice ba' bn bc', .slice da' dn dc', .int .i64 bss, .slice ra' rn rc', .slice ia' im ic', .slice ea' en ec'] 104)
  have v0 := Blk.new (w.alloc (.cells #[.string nm, .slice ta tn tc, .slice ba bn bc, .slice da dn dc, .int .i64 bss, .slice ra rn rc, .slice ia im ic, .slice ea en ec] 104)) #[.string nm, .slice ta' tn tc', .slice ba' bn bc', .slice da' dn dc', .int .i64 bss, .slice ra' rn rc', .slice ia' im ic', .slice ea' en ec'] 104
  simp only [World.size_alloc] at v0
  have hn : (nm.toList != nm.toList) = false := by simp
  have hs : (bss != bss) = false := by simp
  go_enter Tryz.func58, Tryz.ntmps58
  go_wp2_with fail
  refine (eqIntS_any ta ta' tn tc tn tc' tz tz _ (h.t.below hB0) (h'.t.below hB0)).mono ?_
  rw [decide_eq_true rfl]
  rintro e w1 ⟨rfl, hb⟩
  have hB1 := hB0.trans (hb.mono (by have := hB0.size; simp; omega))
  have u1 := u0.below hb
  have v1 := v0.below hb
  clear hb u0 v0
  obtain ⟨q0, q1, q2, q3, q4, q5, q6, q7⟩ := u1.eight
  obtain ⟨p0, p1, p2, p3, p4, p5, p6, p7⟩ := v1.eight
  go_wp2_with fail
  refine (eqIntSS_same ba ba' bn bc bc' bl bl' _ (h.b.below hB1) (h'.b.below hB1) hz).mono ?_
  rintro e w2 ⟨rfl, hb⟩
  have hB2 := hB1.trans (hb.mono (by have := hB1.size; omega))
  have u2 := u1.below hb
  have v2 := v1.below hb
  clear hb u1 v1 q0 q1 q2 q3 q4 q5 q6 q7 p0 p1 p2 p3 p4 p5 p6 p7
  obtain ⟨q0, q1, q2, q3, q4, q5, q6, q7⟩ := u2.eight
  obtain ⟨p0, p1, p2, p3, p4, p5, p6, p7⟩ := v2.eight
  go_wp2_with fail
  refine (eqByteS_any da da' dn dc dn dc' dz dz _ (h.d.below hB2) (h'.d.below hB2)).mono ?_
  rw [decide_eq_true rfl]
  rintro e w3 ⟨rfl, hb⟩
  have hB3 := hB2.trans (hb.mono (by have := hB2.size; omega))
  have u3 := u2.below hb
  have v3 := v2.below hb
  clear hb u2 v2 q0 q1 q2 q3 q4 q5 q6 q7 p0 p1 p2 p3 p4 p5 p6 p7
  obtain ⟨q0, q1, q2, q3, q4, q5, q6, q7⟩ := u3.eight
  obtain ⟨p0, p1, p2, p3, p4, p5, p6, p7⟩ := v3.eight
  go_wp2_with fail
  refine (eqIntS_any ra ra' rn rc rn rc' rz rz _ (h.r.below hB3) (h'.r.below hB3)).mono ?_
  rw [decide_eq_true rfl]
  rintro e w4 ⟨rfl, hb⟩
  have hB4 := hB3.trans (hb.mono (by have := hB3.size; omega))
  have u4 := u3.below hb
  have v4 := v3.below hb
  clear hb u3 v3 q0 q1 q2 q3 q4 q5 q6 q7 p0 p1 p2 p3 p4 p5 p6 p7
  obtain ⟨q0, q1, q2, q3, q4, q5, q6, q7⟩ := u4.eight
  obtain ⟨p0, p1, p2, p3, p4, p5, p6, p7⟩ := v4.eight
  go_wp2_with fail
  refine (eqStringS_same ia ia' im ic ic' ss _ (h.i.below hB4) (h'.i.below hB4)).mono ?_
  rintro e w5 ⟨rfl, hb⟩
  have hB5 := hB4.trans (hb.mono (by have := hB4.size; omega))
  have u5 := u4.below hb
  have v5 := v4.below hb
  clear hb u4 v4 q0 q1 q2 q3 q4 q5 q6 q7 p0 p1 p2 p3 p4 p5 p6 p7
  obtain ⟨q0, q1, q2, q3, q4, q5, q6, q7⟩ := u5.eight
  obtain ⟨p0, p1, p2, p3, p4, p5, p6, p7⟩ := v5.eight
  go_wp2_with fail
  refine (eqExportS_same ea ea' en ec ec' es _ (h.e.below hB5) (h'.e.below hB5)).mono ?_
  rintro e w6 ⟨rfl, hb⟩
  have hB6 := hB5.trans (hb.mono (by have := hB5.size; omega))
  have u6 := u5.below hb
  have v6 := v5.below hb
  clear hb u5 v5 q0 q1 q2 q3 q4 q5 q6 q7 p0 p1 p2 p3 p4 p5 p6 p7
  obtain ⟨q0, q1, q2, q3, q4, q5, q6, q7⟩ := u6.eight
  obtain ⟨p0, p1, p2, p3, p4, p5, p6, p7⟩ := v6.eight
  go_wp2
  go_ret
  exact ⟨rfl, hB6⟩

theorem mt_of_rows {nm : ByteArray} {ta : Option Addr} {tn tc : Nat} {tz : List Int} {ba : Option Addr} {bn bc : Nat} {bl : List Bk} {da : Option Addr} {dn dc : Nat} {dz : List Int} {bss : Int} {ra : Option Addr} {rn rc : Nat} {rz : List Int} {ia : Option Addr} {im ic : Nat} {ss : List ByteArray} {ea : Option Addr} {en ec : Nat} {es : List Ex} {w W : World} {g1 g2 g3 g5 g6 g7 : Nat} {gs : List Nat} (h : MT w nm ta tn tc tz ba bn bc bl da dn dc dz bss ra rn rc rz ia im ic ss ea en ec es) (hg : gs.length = bn)
    (r1 : RowI W g1 tz) (r2 : RowB W g2 bn gs bl) (r3 : Row8 W g3 dz) (r5 : RowI W g5 rz) (r6 : RowT W g6 ss) (r7 : RowX W g7 es) : MT W nm (some ⟨g1, 0, none⟩) tn tn tz (some ⟨g2, 0, none⟩) bn bn (reb gs bl) (some ⟨g3, 0, none⟩) dn dn dz bss (some ⟨g5, 0, none⟩) rn rn rz (some ⟨g6, 0, none⟩) im im ss (some ⟨g7, 0, none⟩) en en es where
  n := h.n
  t := r1.is (by rw [h.t.1]; exact h.t.2.1) h.t.2.2.1 _ _ h.t.1
  b := r2.bks h.b hg
  d := r3.bs (by rw [h.d.1]; exact h.d.2.1) h.d.2.2.1 _ _ h.d.1
  s := h.s
  r := r5.is (by rw [h.r.1]; exact h.r.2.1) h.r.2.2.1 _ _ h.r.1
  i := ⟨h.i.1, h.i.2.1, h.i.2.2.1, fun _ => ⟨g6, 0, rfl, fun i hi => by rw [Nat.zero_add]; exact r6.cell i (by rw [h.i.1]; exact hi)⟩, Nat.le_refl _⟩
  e := r7.te h.e
theorem md_of_mt {nm : ByteArray} {ta : Option Addr} {tn tc : Nat} {tz : List Int} {ba : Option Addr} {bn bc : Nat} {bl : List Bk} {da : Option Addr} {dn dc : Nat} {dz : List Int} {bss : Int} {ra : Option Addr} {rn rc : Nat} {rz : List Int} {ia : Option Addr} {im ic : Nat} {ss : List ByteArray} {ea : Option Addr} {en ec : Nat} {es : List Ex} {w : World} (h : MT w nm ta tn tc tz ba bn bc bl da dn dc dz bss ra rn rc rz ia im ic ss ea en ec es) (hs : mdSize nm tn bn bl dn rn im ss en es ≤ 1048576) : MD w nm ta tn tc tz ba bn bc bl da dn dc dz bss ra rn rc rz ia im ic ss ea en ec es where
  n := by unfold mdSize at hs; omega
  t := h.t
  b := h.b
  d := h.d
  s := h.s
  r := h.r
  i := h.i.ss (by unfold mdSize at hs; omega)
  e := h.e.es (by unfold mdSize at hs; omega)
theorem reb_size (gs : List Nat) (nm : ByteArray) (tn bn : Nat) (bl : List Bk) (dn rn im : Nat) (ss : List ByteArray) (en : Nat) (es : List Ex) (h : bl.length = bn) : mdSize nm tn bn (reb gs bl) dn rn im ss en es = mdSize nm tn bn bl dn rn im ss en es := by
  have key : ∀ k, k ≤ bn → upS (fun j => ((reb gs bl).getD j zB).2.1) k = upS (fun j => (bl.getD j zB).2.1) k := by
    intro k
    induction k with
    | zero => intro _; rfl
    | succ k ih =>
      intro hk
      show upS _ k + _ = upS _ k + _
      rw [ih (by omega)]
      congr 1
      simp only
      rw [reb_at _ _ _ (by omega)]
  unfold mdSize
  rw [key bn (Nat.le_refl _)]

end Go.Proofs.YtngdgogjlpjjpaeGreat

namespace Go.Proofs.YtngdgogjlpjjpaeGreat
open Go.RowKit
set_option linter.unusedVariables false
set_option linter.unusedSimpArgs false
set_option maxRecDepth 100000

/-- a module as it was read -/
structure PMod where
  nm : ByteArray
  tz : List Int
  bl : List (List Int)
  dz : List Int
  bss : Int
  rz : List Int
  ss : List ByteArray
  es : List Ex
/-- WHAT ModuleOk SAYS OF WHAT WAS READ -/
def bkOf (bl : List (List Int)) : List Bk := bl.map fun l => (none, l.length, l.length, l)
def mdoP (P : PMod) : Int := mdo P.nm P.tz.length P.tz P.bl.length (bkOf P.bl) P.dz.length P.bss P.rz.length P.rz P.ss.length P.ss P.es.length P.es
theorem mdo_bks {nm : ByteArray} {tn : Nat} {tz : List Int} {bl bl' : List Bk} {dn : Nat} {bss : Int} {rn : Nat} {rz : List Int} {im : Nat} {ss : List ByteArray} {en : Nat} {es : List Ex} (hl : bl.length = bl'.length) (h : ∀ i, i < bl.length → (bl.getD i zB).2.1 = (bl'.getD i zB).2.1 ∧ (bl.getD i zB).2.2.2 = (bl'.getD i zB).2.2.2) :
    mdo nm tn tz bl.length bl dn bss rn rz im ss en es = mdo nm tn tz bl.length bl' dn bss rn rz im ss en es := by
  have e : reb [] bl = reb [] bl' := by
    unfold reb
    rw [← hl]
    apply List.map_congr_left
    intro i hi
    have := h i (by simpa using hi)
    rw [this.1, this.2]
  rw [← reb_mdo [] nm tn tz bl.length bl dn bss rn rz im ss en es rfl, e, reb_mdo [] nm tn tz bl.length bl' dn bss rn rz im ss en es hl.symm]
end Go.Proofs.YtngdgogjlpjjpaeGreat

namespace Go.Proofs.YtngdgogjlpjjpaeGreat
open Go.RowKit
set_option linter.unusedVariables false
set_option linter.unusedSimpArgs false
set_option maxRecDepth 100000

/-- A module's parts. -/
structure Md where
  nm : ByteArray
  ta : Option Addr
  tn : Nat
  tc : Nat
  tz : List Int
  ba : Option Addr
  bn : Nat
  bc : Nat
  bl : List Bk
  da : Option Addr
  dn : Nat
  dc : Nat
  dz : List Int
  bss : Int
  ra : Option Addr
  rn : Nat
  rc : Nat
  rz : List Int
  ia : Option Addr
  im : Nat
  ic : Nat
  ss : List ByteArray
  ea : Option Addr
  en : Nat
  ec : Nat
  es : List Ex
def zMd : Md := ⟨⟨#[]⟩, none, 0, 0, [], none, 0, 0, [], none, 0, 0, [], 0, none, 0, 0, [], none, 0, 0, [], none, 0, 0, []⟩
def Md.mt (m : Md) (w : World) : Prop := MT w m.nm m.ta m.tn m.tc m.tz m.ba m.bn m.bc m.bl m.da m.dn m.dc m.dz m.bss m.ra m.rn m.rc m.rz m.ia m.im m.ic m.ss m.ea m.en m.ec m.es
def Md.size (m : Md) : Nat := mdSize m.nm m.tn m.bn m.bl m.dn m.rn m.im m.ss m.en m.es
def Md.cells (m : Md) : Array Value := #[.string m.nm, .slice m.ta m.tn m.tc, .slice m.ba m.bn m.bc, .slice m.da m.dn m.dc, .int .i64 m.bss, .slice m.ra m.rn m.rc, .slice m.ia m.im m.ic, .slice m.ea m.en m.ec]
def At8 (w : World) (b o : Nat) (m : Md) : Prop :=
  w.cell? ⟨b, o, none⟩ = some (.string m.nm) ∧ w.cell? ⟨b, o + 1, none⟩ = some (.slice m.ta m.tn m.tc) ∧ w.cell? ⟨b, o + 2, none⟩ = some (.slice m.ba m.bn m.bc) ∧ w.cell? ⟨b, o + 3, none⟩ = some (.slice m.da m.dn m.dc) ∧ w.cell? ⟨b, o + 4, none⟩ = some (.int .i64 m.bss) ∧ w.cell? ⟨b, o + 5, none⟩ = some (.slice m.ra m.rn m.rc) ∧ w.cell? ⟨b, o + 6, none⟩ = some (.slice m.ia m.im m.ic) ∧ w.cell? ⟨b, o + 7, none⟩ = some (.slice m.ea m.en m.ec)
theorem At8.below {w w' : World} {b o : Nat} {m : Md} (h : At8 w b o m) (hb : Below w.heap.size w w') : At8 w' b o m := by
  have key : ∀ o v, w.cell? ⟨b, o, none⟩ = some v → w'.cell? ⟨b, o, none⟩ = some v := fun o v hv => (hb.cell (World.block_lt_of_cell? w _ hv)).trans hv
  obtain ⟨h0, h1, h2, h3, h4, h5, h6, h7⟩ := h
  exact ⟨key _ _ h0, key _ _ h1, key _ _ h2, key _ _ h3, key _ _ h4, key _ _ h5, key _ _ h6, key _ _ h7⟩
theorem Md.below {m : Md} {w w' : World} (h : m.mt w) (hb : Below w.heap.size w w') : m.mt w' := MT.below h hb
/-- A SLICE OF MODULES. -/
def MS (w : World) (a : Option Addr) (n cap : Nat) (ms : List Md) : Prop :=
  ms.length = n ∧ n ≤ maxLen ∧ (n ≠ 0 → ∃ b off, a = some ⟨b, off, none⟩ ∧ ∀ i, i < n → At8 w b (off + i * 8) (ms.getD i zMd)) ∧ (∀ i, i < n → (ms.getD i zMd).mt w) ∧ n ≤ cap
theorem MS.below {w w' : World} {a : Option Addr} {n cap : Nat} {ms : List Md} (h : MS w a n cap ms) (hb : Below w.heap.size w w') : MS w' a n cap ms := by
  obtain ⟨h1, h2, h3, h4, h5⟩ := h
  refine ⟨h1, h2, fun hn => ?_, fun i hi => Md.below (h4 i hi) hb, h5⟩
  obtain ⟨b, off, e, hc⟩ := h3 hn
  exact ⟨b, off, e, fun i hi => (hc i hi).below hb⟩
theorem MS.at {w : World} {a : Option Addr} {n cap : Nat} {ms : List Md} (h : MS w a n cap ms) (i : Nat) (hi : i < n) : ∃ b off, a = some ⟨b, off, none⟩ ∧ At8 w b (off + i * 8) (ms.getD i zMd) := by
  obtain ⟨b, off, e, hc⟩ := h.2.2.1 (by omega)
  exact ⟨b, off, e, hc i hi⟩

set_option maxHeartbeats 1000000 in
theorem szModuleS_any (a : Option Addr) (n cap : Nat) (ms : List Md) (l : Int) (w : World) (h : MS w a n cap ms) (l0 : 0 ≤ l) (l1 : l ≤ 1048576) :
    Calls Tryz.prog 9 #[.slice a n cap, .int .i64 l] w fun e w' => e = .returned (.int .i64 (szR l (n + upS (fun j => (ms.getD j zMd).size) n))) ∧ Below w.heap.size w w' := by
  have hm := h.2.1
  unfold maxLen at hm
  obtain ⟨r, hr⟩ : ∃ r, r = szR l (n + upS (fun j => (ms.getD j zMd).size) n) := ⟨_, rfl⟩
  rw [← hr]
  unfold szR at hr
  have HR := hide hr
  clear hr
  by_cases c1 : l < (n : Int)
  · have e := hide (show r = -1 from by rw [HR.out, if_pos (by omega)])
    go_enter Tryz.func9, Tryz.ntmps9
    go_wp2
    go_ret
    exact ⟨ret_int e.out.symm, Below.refl _ _⟩
  · go_enter Tryz.func9, Tryz.ntmps9
    go_wp2_with fail
    go_loopw [1, 5] (fun v i wr => ∃ (k : Nat) (z : Int), k ≤ n ∧ i = .int .i64 k ∧ v = .int .i64 z ∧ 0 ≤ z ∧ z ≤ 1048576 ∧ Hid (z = l - n - (upS (fun j => (ms.getD j zMd).size) k : Nat)) ∧ Below w.heap.size w wr) (fun _ i _ => n - (intOf i).toNat)
    case atStart => exact ⟨0, l - n, Nat.zero_le _, rfl, rfl, by omega, by omega, hide (by simp [upS]), Below.refl _ _⟩
    case round =>
      obtain ⟨k, z, hk, rfl, rfl, z0, z1, HZ, hB⟩ := hrel
      by_cases hlt : k < n
      · have hlt' : (k : Int) < (n : Int) := by omega
        obtain ⟨b, off, rfl, y0, y1, y2, y3, y4, y5, y6, y7⟩ := (h.below hB).at k hlt
        have HT := hide ((h.below hB).2.2.2.1 k hlt)
        have HU := hide (show upS (fun j => (ms.getD j zMd).size) (k + 1) = upS (fun j => (ms.getD j zMd).size) k + (ms.getD k zMd).size from rfl)
        have HM := hide (upS_mono (fun j => (ms.getD j zMd).size) (k + 1) n (by omega))
        generalize ms.getD k zMd = m at *
        obtain ⟨nm, ta, tn, tc, tz, ba, bn, bc, bl, da, dn, dc, dz, bss, ra, rn, rc, rz, ia, im, ic, ss, ea, en, ec, es⟩ := m
        dsimp only at y0 y1 y2 y3 y4 y5 y6 y7
        have HS := hide (szModule_any nm ta tn tc tz ba bn bc bl da dn dc dz bss ra rn rc rz ia im ic ss ea en ec es z wr HT.out z0 z1)
        have HE := hide (show Md.size ⟨nm, ta, tn, tc, tz, ba, bn, bc, bl, da, dn, dc, dz, bss, ra, rn, rc, rz, ia, im, ic, ss, ea, en, ec, es⟩ = mdSize nm tn bn bl dn rn im ss en es from rfl)
        rw [HE.out] at HU
        generalize mdSize nm tn bn bl dn rn im ss en es = q at *
        unfold szR at HS
        by_cases c2 : z < (q : Int)
        · rw [if_pos c2] at HS
          have e := hide (show r = -1 from by
            have h1 := HZ.out; have h2 := HU.out; have h3 := HM.out
            rw [HR.out, if_pos (by omega)])
          go_wp2_with fail
          refine HS.out.mono ?_
          rintro e w1 ⟨rfl, hb1⟩
          go_wp2
          go_ret
          exact ⟨ret_int e.out.symm, hB.trans (hb1.mono hB.size)⟩
        · rw [if_neg c2] at HS
          have hz2 : ¬ z - (q : Int) < 0 := by omega
          go_wp2_with fail
          refine HS.out.mono ?_
          rintro e w1 ⟨rfl, hb1⟩
          clear y0 y1 y2 y3 y4 y5 y6 y7
          go_wp2
          go_roundw
          case rel => exact ⟨k + 1, z - q, by omega, by go_num, rfl, by omega, by omega, hide (by have h1 := HZ.out; have h2 := HU.out; omega), hB.trans (hb1.mono hB.size)⟩
          case measure => simp [intOf]; omega
      · have e := hide (show r = z from by
          have h1 := HZ.out
          have hkn : k = n := by omega
          rw [hkn] at h1
          rw [HR.out, if_neg (by omega)]
          omega)
        go_wp2
        go_ret
        exact ⟨ret_int e.out.symm, hB⟩
end Go.Proofs.YtngdgogjlpjjpaeGreat
