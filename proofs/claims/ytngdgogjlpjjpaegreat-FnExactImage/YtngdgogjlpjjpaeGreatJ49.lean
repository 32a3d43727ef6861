import Derived.Test.YtngdgogjlpjjpaeGreatJ46
import Derived.Test.YtngdgogjlpjjpaeGreatJ47
import Derived.Test.YtngdgogjlpjjpaeGreatJ48
import Derived.Test.YtngdgogjlpjjpaeGreatJ41
namespace Go.Proofs.YtngdgogjlpjjpaeGreat
open Go.RowKit
set_option linter.unusedVariables false
set_option linter.unusedSimpArgs false
set_option maxRecDepth 100000

set_option maxHeartbeats 2000000 in
theorem markTargetSS_big (a : Option Addr) (n cap k base : Nat) (f : Nat → TB) (X : Nat → List Tg) (w : World) (h : Rt w base a n f X) (hn : n ≤ 1048576) (hr : ∀ i, i < n → (f i).1.length ≤ 1048576) (hz : k + sumT f n ≤ 4194304) :
    Calls Tryz.prog 96 #[.slice a n cap, .int .i64 k] w fun e w' => e = .returned (.int .i64 ((k + sumT f n : Nat) : Int)) ∧ Rt w' base a n f (mrkT k f) ∧ Turn (St f n) w w' := by
  have HH := hide h
  clear h
  go_enter Tryz.func96, Tryz.ntmps96
  go_wp2
  go_loopw [1, 5] (fun x i wr => ∃ m : Nat, m ≤ n ∧ i = .int .i64 m ∧ x = .int .i64 ((k + sumT f m : Nat) : Int) ∧ Rt wr base a n f (fun i => if i < m then mrkT k f i else X i) ∧ Turn (St f n) w wr) (fun _ i _ => n - (intOf i).toNat)
  case atStart => exact ⟨0, Nat.zero_le _, rfl, rfl, HH.out, Turn.refl _ _⟩
  case round =>
    obtain ⟨m, hm, rfl, rfl, R, T⟩ := hrel
    by_cases hlt : m < n
    · have hlt' : (m : Int) < (n : Int) := by omega
      obtain ⟨g, cs, rfl, hng, hb, hc⟩ := R.head (by omega)
      have c0 := (hb.cell m).trans (hc m hlt)
      have hle := sumT_le f n m hlt
      have hrm := hr m hlt
      have hr := R.rows m hlt
      simp only [Nat.lt_irrefl, if_false] at hr
      have HMK := hide (markTargetS_any (f m).2.1 (f m).1.length (f m).2.2 base (X m) (k + sumT f m) wr hr (by omega) (by omega))
      have HFIN := hide (fun (w1 : World) (O1 : OG 71 3 clG w1 base (svT (f m)) (marksG (k + sumT f m) (f m).1.length)) (T1 : Turn (fun j => (svT (f m)).ownBlock = some j) wr w1) => show Rt w1 base (some ⟨g, 0, none⟩) n f (fun i => if i < m + 1 then mrkT k f i else X i) ∧ Turn (St f n) w w1 from by
        refine ⟨⟨fun _ => ⟨g, cs, rfl, hng, turn_blk T1 hb (fun e => hng ⟨m, hlt, e⟩), hc⟩, fun i hi => ?_, R.apart⟩, T.trans (T1.mono (fun j hj => ⟨m, hlt, hj⟩))⟩
        by_cases e : i = m
        · subst e
          simp only [show i < i + 1 by omega, if_true]
          exact O1
        · have hi' := (R.rows i hi).kept T1 (fun q hq hq' => R.apart i m hi hlt e q hq hq')
          by_cases e2 : i < m
          · simp only [e2, if_true, show i < m + 1 by omega] at hi' ⊢
            exact hi'
          · simp only [e2, if_false, show ¬ i < m + 1 by omega] at hi' ⊢
            exact hi')
      have HSU := hide (show sumT f (m + 1) = sumT f m + 3 * (f m).1.length from rfl)
      clear R T hb hc hr
      generalize sumT f m = sm at *
      unfold svT at c0 HFIN
      generalize f m = fm at *
      obtain ⟨fl, fa, fc⟩ := fm
      dsimp only at *
      go_wp2_with fail
      refine HMK.out.mono ?_
      rintro e w1 ⟨rfl, O1, T1⟩
      have HX := hide (HFIN.out w1 O1 T1)
      clear O1 T1 HFIN HMK c0
      go_wp2
      go_roundw
      case rel => exact ⟨m + 1, by omega, by go_num, by rw [HSU.out]; go_num, HX.out.1, HX.out.2⟩
      case measure => simp [intOf]; omega
    · have e : Hid (m = n) := by show m = n; omega
      have HX := hide (And.intro R T)
      clear R T
      go_wp2
      go_ret
      refine ⟨ret_int (by rw [e.out]), ?_, HX.out.2⟩
      have R := HX.out.1
      refine ⟨R.head, fun i hi => ?_, R.apart⟩
      have := R.rows i hi
      rw [e.out] at this
      simp only [hi, if_true] at this
      exact this

set_option maxHeartbeats 4000000 in
theorem markPlaceS_big (a : Option Addr) (n cap k base : Nat) (f : Nat → Rw3) (V : Nat → Int × Int × Int) (X : Nat → List Int) (w : World) (h : Rp w base a n f V X) (hn : n ≤ 1048576) (hr : ∀ i, i < n → (f i).2.1 ≤ 1048576) (hz : k + sumP f n ≤ 4194304) :
    Calls Tryz.prog 95 #[.slice a n cap, .int .i64 k] w fun e w' => e = .returned (.int .i64 ((k + sumP f n : Nat) : Int)) ∧ Rp w' base a n f (mvP k f) (mrkP k f) ∧ Turn (Sp a f n) w w' := by
  have HH := hide h
  clear h
  go_enter Tryz.func95, Tryz.ntmps95
  go_wp2
  go_loopw [1, 5] (fun x i wr => ∃ m : Nat, m ≤ n ∧ i = .int .i64 m ∧ x = .int .i64 ((k + sumP f m : Nat) : Int) ∧ Rp wr base a n f (fun i => if i < m then mvP k f i else V i) (fun i => if i < m then mrkP k f i else X i) ∧ Turn (Sp a f n) w wr) (fun _ i _ => n - (intOf i).toNat)
  case atStart => exact ⟨0, Nat.zero_le _, rfl, rfl, HH.out, Turn.refl _ _⟩
  case round =>
    obtain ⟨m, hm, rfl, rfl, R, T⟩ := hrel
    by_cases hlt : m < n
    · have hlt' : (m : Int) < (n : Int) := by omega
      obtain ⟨g, cs, rfl, hng, hb, hc⟩ := R.head (by omega)
      have hf : ∀ i, wr.frozen? ⟨g, i, none⟩ = false := fun i => hb.frozen i
      obtain ⟨d0, d1, d2, d3⟩ := hc m hlt
      have c0 := (hb.cell (m * 4)).trans d0
      have hle := sumP_le f n m hlt
      have hrm := hr m hlt
      have hr := R.rows m hlt
      simp only [Nat.lt_irrefl, if_false] at hr
      have T0 : Turn (fun j => j = g) wr (wr.setCell ⟨g, m * 4, none⟩ (.int .i64 ((k : Int) + (sumP f m : Int)))) := turn_set _ _ _ _
      have hr0 := turn_oi T0 hr (fun k hk s => hng ⟨m, hlt, by rw [← s]; exact hk⟩)
      have hb0 := hb.set (m * 4) (.int .i64 ((k : Int) + (sumP f m : Int)))
      have c1 := (hb0.cell (m * 4 + 1)).trans (ar_other d1 (by omega))
      have HMK := hide (by
        have := markIntS_any (f m).1 (f m).2.1 (f m).2.2 base (X m) (k + sumP f m + 1) _ hr0 (by omega) (by omega)
        rw [show ((k + sumP f m + 1 : Nat) : Int) = (k : Int) + (sumP f m : Int) + 1 by push_cast; rfl] at this
        exact this)
      have HCL := hide (fun (w1 : World) (T1 : Turn (fun j => (svR (f m)).ownBlock = some j) (wr.setCell ⟨g, m * 4, none⟩ (.int .i64 ((k : Int) + (sumP f m : Int)))) w1) => by
        have b1 := turn_blk T1 hb0 (fun e => hng ⟨m, hlt, e⟩)
        exact And.intro ((b1.cell (m * 4 + 2)).trans (ar_other d2 (by omega))) (And.intro ((b1.cell (m * 4 + 3)).trans (ar_other d3 (by omega))) (fun i => b1.frozen i)))
      have HFIN := hide (fun (w1 : World) (y z : Int) (hy : y = ((k + sumP f m + 1 + (f m).2.1 : Nat) : Int)) (hz : z = ((k + sumP f m + 1 + (f m).2.1 + 1 : Nat) : Int)) (O1 : OI w1 base (svR (f m)) (marksI (k + sumP f m + 1) (f m).2.1)) (T1 : Turn (fun j => (svR (f m)).ownBlock = some j) (wr.setCell ⟨g, m * 4, none⟩ (.int .i64 ((k : Int) + (sumP f m : Int)))) w1) => show Rp ((w1.setCell ⟨g, m * 4 + 2, none⟩ (.int .i64 y)).setCell ⟨g, m * 4 + 3, none⟩ (.int .i64 z)) base (some ⟨g, 0, none⟩) n f (fun i => if i < m + 1 then mvP k f i else V i) (fun i => if i < m + 1 then mrkP k f i else X i) ∧ Turn (Sp (some ⟨g, 0, none⟩) f n) w ((w1.setCell ⟨g, m * 4 + 2, none⟩ (.int .i64 y)).setCell ⟨g, m * 4 + 3, none⟩ (.int .i64 z)) from by
        refine ⟨R.step hng hb hc hlt _ y z (fun i hi => ?_) ?_ (fun i hi => ?_) T1 ?_, ?_⟩
        · by_cases e2 : i < m
          · rw [if_pos e2, if_pos (by omega)]
          · rw [if_neg e2, if_neg (by omega)]
        · rw [if_pos (by omega), hy, hz]; unfold mvP; push_cast; rfl
        · by_cases e2 : i < m
          · rw [if_pos e2, if_pos (by omega)]
          · rw [if_neg e2, if_neg (by omega)]
        · simp only [show m < m + 1 by omega, if_true]; exact O1
        · exact ((T.trans (T0.mono (fun j hj => .inr ⟨by omega, g, rfl, hj⟩))).trans (T1.mono (fun j hj => .inl ⟨m, hlt, hj⟩))).trans (((turn_set w1 g (m * 4 + 2) _).trans (turn_set _ g (m * 4 + 3) _)).mono (fun j hj => .inr ⟨by omega, g, rfl, hj⟩)))
      have HSU := hide (show sumP f (m + 1) = sumP f m + ((f m).2.1 + 3) from rfl)
      clear R T hb hc hr T0 hr0 hb0 d0 d1 d2 d3
      unfold svR at c1 HFIN HCL
      generalize sumP f m = sm at *
      generalize f m = fm at *
      obtain ⟨fa, fn, fc⟩ := fm
      dsimp only at *
      have hf0 := hf (m * 4)
      clear hf
      go_wp2_with fail
      refine HMK.out.mono ?_
      rintro e w1 ⟨rfl, O1, T1⟩
      obtain ⟨e2, e3, e4⟩ := HCL.out w1 T1
      have e42 := e4 (m * 4 + 2)
      have e43 := e4 (m * 4 + 3)
      have HX := hide (fun y z hy hz => HFIN.out w1 y z hy hz O1 T1)
      clear O1 T1 HFIN HMK c0 c1 HCL e4
      go_wp2
      go_roundw
      case rel => exact ⟨m + 1, by omega, by go_num, by rw [HSU.out]; go_num, (HX.out _ _ (by go_num) (by go_num)).1, (HX.out _ _ (by go_num) (by go_num)).2⟩
      case measure => simp [intOf]; omega
    · have e : Hid (m = n) := by show m = n; omega
      have HX := hide (And.intro R T)
      clear R T
      go_wp2
      go_ret
      refine ⟨ret_int (by rw [e.out]), ?_, HX.out.2⟩
      have R := HX.out.1
      rw [e.out] at R
      refine ⟨fun h0 => ?_, fun i hi => ?_, R.apart, R.hb⟩
      · obtain ⟨g, cs, h1, h2, h3, h4⟩ := R.head h0
        refine ⟨g, cs, h1, h2, h3, fun i hi => ?_⟩
        have := h4 i hi
        simp only [hi, if_true] at this
        exact this
      · have := R.rows i hi
        simp only [hi, if_true] at this
        exact this

set_option maxHeartbeats 2000000 in
theorem markLayout_big (a0 : Option Addr) (n c0 : Nat) (st : Int) (a2 : Option Addr) (sn c2 : Nat) (fl ra : Int) (a5 : Option Addr) (tn c5 : Nat) (k base : Nat) (f : Nat → Rw3) (V : Nat → Int × Int × Int) (X : Nat → List Int) (Z : List Int) (F : Nat → TB) (G : Nat → List Tg) (w : World) (h : Y3 w base a0 n f V X (.slice a2 sn c2) Z a5 tn F G)
    (hn : n ≤ 1048576) (hrp : ∀ i, i < n → (f i).2.1 ≤ 1048576) (hsn : sn ≤ 1048576) (htn : tn ≤ 1048576) (hrt : ∀ i, i < tn → (F i).1.length ≤ 1048576) (hz : k + sumP f n + sn + sumT F tn ≤ 4194304) :
    Calls Tryz.prog 26 #[.agg #[.slice a0 n c0, .int .i64 st, .slice a2 sn c2, .int .i64 fl, .int .i64 ra, .slice a5 tn c5], .int .i64 k] w fun e w' => e = .returned (.int .i64 ((k + sumP f n + sn + sumT F tn : Nat) : Int)) ∧ Y3 w' base a0 n f (mvP k f) (mrkP k f) (.slice a2 sn c2) (marksI (k + sumP f n) sn) a5 tn F (mrkT (k + sumP f n + sn) F) ∧ Turn (Sy a0 n f (.slice a2 sn c2) tn F) w w' := by
  have k0 := Blk.new w #[.slice a0 n c0, .int .i64 st, .slice a2 sn c2, .int .i64 fl, .int .i64 ra, .slice a5 tn c5] 36
  have B0 : Below w.heap.size w (w.alloc (.cells #[.slice a0 n c0, .int .i64 st, .slice a2 sn c2, .int .i64 fl, .int .i64 ra, .slice a5 tn c5] 36)) := (Below.refl _ _).alloc (Nat.le_refl _) _
  have T0 : Turn (Sy a0 n f (.slice a2 sn c2) tn F) w (w.alloc (.cells #[.slice a0 n c0, .int .i64 st, .slice a2 sn c2, .int .i64 fl, .int .i64 ra, .slice a5 tn c5] 36)) := turn_below B0
  have hnS : ¬ Sy a0 n f (.slice a2 sn c2) tn F w.heap.size := fun e => by have := h.lt e; omega
  have Y0 := h.below B0
  have HF := hide (fun (W : World) (hp : Rp W base a0 n f V X) => markPlaceS_big a0 n c0 k base f V X W hp (by omega) hrp (by omega))
  have HT := hide (fun (W : World) (Q : Nat) (hQ : Q + sumT F tn ≤ 4194304) (ht : Rt W base a5 tn F G) => markTargetSS_big a5 tn c5 Q base F G W ht (by omega) hrt hQ)
  generalize sumP f n = sp at *
  generalize sumT F tn = stt at *
  clear h B0
  obtain ⟨q0, q1, q2, q3, q4, q5⟩ := k0.lay
  have HY := hide Y0
  have HTU := hide T0
  clear Y0 T0
  go_enter Tryz.func26, Tryz.ntmps26
  go_wp2_with fail
  refine (HF.out _ HY.out.p).mono ?_
  rintro e w1 ⟨rfl, O1, T1⟩
  have Y1 := HY.out.set_p O1 T1
  have k1 := turn_blk T1 k0 (fun s => hnS (.inl s))
  have TT1 := HTU.out.trans (T1.mono (fun j hj => .inl hj))
  clear HY HTU k0 q0 q1 q2 q3 q4 q5 O1 T1 HF
  obtain ⟨q0, q1, q2, q3, q4, q5⟩ := k1.lay
  go_wp2_with fail
  refine (markIntS_any a2 sn c2 base Z (k + sp) _ Y1.s (by omega) (by omega)).mono ?_
  rintro e w2 ⟨rfl, O2, T2⟩
  have Y2 := Y1.set_s O2 T2
  have k2 := turn_blk T2 k1 (fun s => hnS (.inr (.inl s)))
  have TT2 := TT1.trans (T2.mono (fun j hj => .inr (.inl hj)))
  clear Y1 k1 TT1 O2 T2 q0 q1 q2 q3 q4 q5
  obtain ⟨q0, q1, q2, q3, q4, q5⟩ := k2.lay
  go_wp2_with fail
  refine (HT.out _ (k + sp + sn) (by omega) Y2.t).mono ?_
  rintro e w3 ⟨rfl, O3, T3⟩
  have Y3' := hide (Y2.set_t O3 T3)
  have TT3 := hide (TT2.trans (T3.mono (fun j hj => .inr (.inr hj))))
  clear Y2 k2 TT2 O3 T3 q0 q1 q2 q3 q4 q5
  go_wp2
  go_ret
  exact ⟨by go_num, Y3'.out, TT3.out⟩

section
variable {W W' : World} {base : Nat} {v1 v2 v3 : Value} {x1 x2 x3 : List Int}
theorem OM.below (h : OM W base v1 v2 v3 x1 x2 x3) (hb : Below W.heap.size W W') : OM W' base v1 v2 v3 x1 x2 x3 := ⟨h.o1.below hb, h.o2.below hb, h.o3.below hb, h.a12, h.a13, h.a23⟩
theorem OM.mono {base' : Nat} (h : OM W base v1 v2 v3 x1 x2 x3) (hb : base' ≤ base) : OM W base' v1 v2 v3 x1 x2 x3 := ⟨h.o1.mono hb, h.o2.mono hb, h.o3.mono hb, h.a12, h.a13, h.a23⟩
theorem OM.lt (h : OM W base v1 v2 v3 x1 x2 x3) {j : Nat} (hj : Blks v1 v2 v3 j) : base ≤ j ∧ j < W.heap.size := by
  rcases hj with e | e | e
  · exact h.o1.lt j e
  · exact h.o2.lt j e
  · exact h.o3.lt j e
theorem OM.kept {S : Nat → Prop} (h : OM W base v1 v2 v3 x1 x2 x3) (t : Turn S W W') (hs : ∀ j, Blks v1 v2 v3 j → ¬ S j) : OM W' base v1 v2 v3 x1 x2 x3 := ⟨turn_ob t h.o1 (fun k hk => hs k (.inl hk)), turn_ob t h.o2 (fun k hk => hs k (.inr (.inl hk))), turn_ob t h.o3 (fun k hk => hs k (.inr (.inr hk))), h.a12, h.a13, h.a23⟩
end
set_option maxHeartbeats 1000000 in
theorem markMem_om (a1 a2 a3 : Option Addr) (n1 d1 n2 d2 n3 d3 base : Nat) (x1 x2 x3 : List Int) (w : World) (h : OM w base (.slice a1 n1 d1) (.slice a2 n2 d2) (.slice a3 n3 d3) x1 x2 x3) (hn : n1 + n2 + n3 ≤ 2097152) :
    Calls Tryz.prog 27 #[.agg #[.slice a1 n1 d1, .slice a2 n2 d2, .slice a3 n3 d3], .int .i64 1] w fun e w' => e = .returned (.int .i64 ((1 + n1 + n2 + n3 : Nat) : Int)) ∧ OM w' base (.slice a1 n1 d1) (.slice a2 n2 d2) (.slice a3 n3 d3) (marks 1 n1) (marks (1 + n1) n2) (marks (1 + n1 + n2) n3) ∧ Turn (Blks (.slice a1 n1 d1) (.slice a2 n2 d2) (.slice a3 n3 d3)) w w' := by
  have hlt : ∀ j, Blks (.slice a1 n1 d1) (.slice a2 n2 d2) (.slice a3 n3 d3) j → j < w.heap.size := fun j hj => (h.lt hj).2
  have kb := Blk.new w #[.slice a1 n1 d1, .slice a2 n2 d2, .slice a3 n3 d3] 50
  have bb : Below w.heap.size w (w.alloc (.cells #[.slice a1 n1 d1, .slice a2 n2 d2, .slice a3 n3 d3] 50)) := (Below.refl _ _).alloc (Nat.le_refl _) _
  have h' := h.below bb
  have T0 : Turn (Blks (.slice a1 n1 d1) (.slice a2 n2 d2) (.slice a3 n3 d3)) w (w.alloc (.cells #[.slice a1 n1 d1, .slice a2 n2 d2, .slice a3 n3 d3] 50)) := turn_below bb
  obtain ⟨_, _, _, o12, o13, o23⟩ := h
  clear bb
  go_enter Tryz.func27, Tryz.ntmps27
  go_wp2_with fail
  refine (markByteS_any a1 n1 d1 base x1 1 _ h'.o1 (by omega) (by omega)).mono ?_
  rintro e w1 ⟨rfl, p1, t1⟩
  have kb1 := turn_blk t1 kb (fun e => by have := hlt _ (Or.inl e); omega)
  have p2 := turn_ob t1 h'.o2 (fun k hk e => o12 k e hk)
  have p3 := turn_ob t1 h'.o3 (fun k hk e => o13 k e hk)
  have T1 := T0.trans (t1.mono (fun k hk => Or.inl hk))
  clear t1 kb h'
  obtain ⟨q1, q2, q3, q4⟩ := kb1.three
  go_wp2_with fail
  refine (markByteS_any a2 n2 d2 base x2 (1 + n1) _ p2 (by omega) (by omega)).mono ?_
  rintro e w2 ⟨rfl, p2, t2⟩
  have kb2 := turn_blk t2 kb1 (fun e => by have := hlt _ (Or.inr (Or.inl e)); omega)
  have p1 := turn_ob t2 p1 (fun k hk e => o12 k hk e)
  have p3 := turn_ob t2 p3 (fun k hk e => o23 k e hk)
  have T2 := T1.trans (t2.mono (fun k hk => Or.inr (Or.inl hk)))
  clear t2 kb1 q1 q2 q3 q4
  obtain ⟨q1, q2, q3, q4⟩ := kb2.three
  go_wp2_with fail
  refine (markByteS_any a3 n3 d3 base x3 (1 + n1 + n2) _ p3 (by omega) (by omega)).mono ?_
  rintro e w3 ⟨rfl, p3, t3⟩
  have p1 := turn_ob t3 p1 (fun k hk e => o13 k hk e)
  have p2 := turn_ob t3 p2 (fun k hk e => o23 k hk e)
  have T3 := T2.trans (t3.mono (fun k hk => Or.inr (Or.inr hk)))
  go_wp2
  go_ret
  exact ⟨rfl, ⟨p1, p2, p3, o12, o13, o23⟩, T3⟩
/-- how many marks a layout that came in takes -/
theorem sumP_le3 (xs : List PB) : ∀ n, sumP (plF xs) n ≤ 3 * n + upS (fun j => (xs.getD j zPB).1.banks.length) n
  | 0 => by simp [sumP, upS]
  | n + 1 => by
    have := sumP_le3 xs n
    show sumP (plF xs) n + ((xs.getD n zPB).1.banks.length + 3) ≤ 3 * (n + 1) + (upS _ n + (xs.getD n zPB).1.banks.length)
    omega
theorem sumT_le3 (ts : List TB) : ∀ n, sumT (tbF ts) n ≤ 3 * upS (fun j => (ts.getD j zTB).1.length) n
  | 0 => by simp [sumT, upS]
  | n + 1 => by
    have := sumT_le3 ts n
    show sumT (tbF ts) n + 3 * (ts.getD n zTB).1.length ≤ 3 * (upS _ n + (ts.getD n zTB).1.length)
    omega
theorem lySz_eq {L : Lay} {xs xs' : List PB} {ts ts' : List TB} (h1 : xs.map (fun x => x.1) = xs'.map (fun x => x.1)) (h2 : ts.map (fun x => x.1) = ts'.map (fun x => x.1)) : lySz L xs ts = lySz L xs' ts' := by
  have l1 : xs.length = xs'.length := by have := congrArg List.length h1; simpa using this
  have l2 : ts.length = ts'.length := by have := congrArg List.length h2; simpa using this
  have key : ∀ (f g : Nat → Nat) (n : Nat), (∀ i, i < n → f i = g i) → upS f n = upS g n := by
    intro f g n
    induction n with
    | zero => intro _; rfl
    | succ n ih => intro h; show upS f n + f n = upS g n + g n; rw [ih (fun i hi => h i (by omega)), h n (by omega)]
  unfold lySz plSz tsSz
  rw [l1, l2]
  congr 1
  · congr 2
    refine key _ _ _ (fun i hi => ?_)
    have e := congrArg (fun l => l.getD i zPB.1) h1
    try simp only at e
    rw [map_getD _ _ _ zPB _ (by omega), map_getD _ _ _ zPB _ hi] at e
    rw [e]
  · congr 1
    refine key _ _ _ (fun i hi => ?_)
    have e := congrArg (fun l => l.getD i zTB.1) h2
    try simp only at e
    rw [map_getD _ _ _ zTB _ (by omega), map_getD _ _ _ zTB _ hi] at e
    rw [e]
end Go.Proofs.YtngdgogjlpjjpaeGreat
