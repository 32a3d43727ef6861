import Derived.Test.YtngdgogjlpjjpaeGreatJ40
import Derived.Test.YtngdgogjlpjjpaeGreatJ49
import Derived.Test.YtngdgogjlpjjpaeGreatJ45
import Derived.Test.YtngdgogjlpjjpaeGreatJ06
import Derived.Deep.RegionHeld3
import Derived.Deep.RegionWith
namespace Go.Proofs.YtngdgogjlpjjpaeGreat
open Go.RowKit
set_option linter.unusedVariables false
set_option linter.unusedSimpArgs false
set_option maxRecDepth 100000

set_option maxHeartbeats 2000000 in
theorem markTargetSS_big (a : Option Addr) (n cap k base : Nat) (f : Nat → TB) (X : Nat → List Tg) (w : World) (h : Rt w base a n f X) (hn : n ≤ 1048576) (hr : ∀ i, i < n → (f i).1.length ≤ 1048576) (hz : k + sumT f n ≤ 4194304) :
    Calls Tryz.prog 96 #[.slice a n cap, .int .i64 k] w fun e w' => e = .returned (.int .i64 ((k + sumT f n : Nat) : Int)) ∧ Rt w' base a n f (mrkT k f) ∧ Turn (St f n) w w' := by
  have HH := hide h
  clear h
  go_enter Tryz.func96, Tryz.ntmps96
  go_wp2
  go_loopw [1, 5] (fun x i wr => ∃ m : Nat, m ≤ n ∧ i = .int .i64 m ∧ x = .int .i64 ((k + sumT f m : Nat) : Int) ∧ Rt wr base a n f (fun i => if i < m then mrkT k f i else X i) ∧ Turn (St f n) w wr) (fun _ i _ => n - (intOf i).toNat)
  case atStart => exact ⟨0, Nat.zero_le _, rfl, rfl, HH.out, Turn.refl _ _⟩
  case round =>
    obtain ⟨m, hm, rfl, rfl, R, T⟩ := hrel
    by_cases hlt : m < n
    · have hlt' : (m : Int) < (n : Int) := by omega
      obtain ⟨g, cs, rfl, hng, hb, hc⟩ := R.head (by omega)
      have c0 := (hb.cell m).trans (hc m hlt)
      have hle := sumT_le f n m hlt
      have hrm := hr m hlt
      have hr := R.rows m hlt
      simp only [Nat.lt_irrefl, if_false] at hr
      have HMK := hide (markTargetS_any (f m).2.1 (f m).1.length (f m).2.2 base (X m) (k + sumT f m) wr hr (by omega) (by omega))
      have HFIN := hide (fun (w1 : World) (O1 : OG 71 3 clG w1 base (svT (f m)) (marksG (k + sumT f m) (f m).1.length)) (T1 : Turn (fun j => (svT (f m)).ownBlock = some j) wr w1) => show Rt w1 base (some ⟨g, 0, none⟩) n f (fun i => if i < m + 1 then mrkT k f i else X i) ∧ Turn (St f n) w w1 from by
        refine ⟨⟨fun _ => ⟨g, cs, rfl, hng, turn_blk T1 hb (fun e => hng ⟨m, hlt, e⟩), hc⟩, fun i hi => ?_, R.apart⟩, T.trans (T1.mono (fun j hj => ⟨m, hlt, hj⟩))⟩
        by_cases e : i = m
        · subst e
          simp only [show i < i + 1 by omega, if_true]
          exact O1
        · have hi' := (R.rows i hi).kept T1 (fun q hq hq' => R.apart i m hi hlt e q hq hq')
          by_cases e2 : i < m
          · simp only [e2, if_true, show i < m + 1 by omega] at hi' ⊢
            exact hi'
          · simp only [e2, if_false, show ¬ i < m + 1 by omega] at hi' ⊢
            exact hi')
      have HSU := hide (show sumT f (m + 1) = sumT f m + 3 * (f m).1.length from rfl)
      clear R T hb hc hr
      generalize sumT f m = sm at *
      unfold svT at c0 HFIN
      generalize f m = fm at *
      obtain ⟨fl, fa, fc⟩ := fm
      dsimp only at *
      go_wp2_with fail
      refine HMK.out.mono ?_
      rintro e w1 ⟨rfl, O1, T1⟩
      have HX := hide (HFIN.out w1 O1 T1)
      clear O1 T1 HFIN HMK c0
      go_wp2
      go_roundw
      case rel => exact ⟨m + 1, by omega, by go_num, by rw [HSU.out]; go_num, HX.out.1, HX.out.2⟩
      case measure => simp [intOf]; omega
    · have e : Hid (m = n) := by show m = n; omega
      have HX := hide (And.intro R T)
      clear R T
      go_wp2
      go_ret
      refine ⟨ret_int (by rw [e.out]), ?_, HX.out.2⟩
      have R := HX.out.1
      refine ⟨R.head, fun i hi => ?_, R.apart⟩
      have := R.rows i hi
      rw [e.out] at this
      simp only [hi, if_true] at this
      exact this

set_option maxHeartbeats 4000000 in
theorem markPlaceS_big (a : Option Addr) (n cap k base : Nat) (f : Nat → Rw3) (V : Nat → Int × Int × Int) (X : Nat → List Int) (w : World) (h : Rp w base a n f V X) (hn : n ≤ 1048576) (hr : ∀ i, i < n → (f i).2.1 ≤ 1048576) (hz : k + sumP f n ≤ 4194304) :
    Calls Tryz.prog 95 #[.slice a n cap, .int .i64 k] w fun e w' => e = .returned (.int .i64 ((k + sumP f n : Nat) : Int)) ∧ Rp w' base a n f (mvP k f) (mrkP k f) ∧ Turn (Sp a f n) w w' := by
  have HH := hide h
  clear h
  go_enter Tryz.func95, Tryz.ntmps95
  go_wp2
  go_loopw [1, 5] (fun x i wr => ∃ m : Nat, m ≤ n ∧ i = .int .i64 m ∧ x = .int .i64 ((k + sumP f m : Nat) : Int) ∧ Rp wr base a n f (fun i => if i < m then mvP k f i else V i) (fun i => if i < m then mrkP k f i else X i) ∧ Turn (Sp a f n) w wr) (fun _ i _ => n - (intOf i).toNat)
  case atStart => exact ⟨0, Nat.zero_le _, rfl, rfl, HH.out, Turn.refl _ _⟩
  case round =>
    obtain ⟨m, hm, rfl, rfl, R, T⟩ := hrel
    by_cases hlt : m < n
    · have hlt' : (m : Int) < (n : Int) := by omega
      obtain ⟨g, cs, rfl, hng, hb, hc⟩ := R.head (by omega)
      have hf : ∀ i, wr.frozen? ⟨g, i, none⟩ = false := fun i => hb.frozen i
      obtain ⟨d0, d1, d2, d3⟩ := hc m hlt
      have c0 := (hb.cell (m * 4)).trans d0
      have hle := sumP_le f n m hlt
      have hrm := hr m hlt
      have hr := R.rows m hlt
      simp only [Nat.lt_irrefl, if_false] at hr
      have T0 : Turn (fun j => j = g) wr (wr.setCell ⟨g, m * 4, none⟩ (.int .i64 ((k : Int) + (sumP f m : Int)))) := turn_set _ _ _ _
      have hr0 := turn_oi T0 hr (fun k hk s => hng ⟨m, hlt, by rw [← s]; exact hk⟩)
      have hb0 := hb.set (m * 4) (.int .i64 ((k : Int) + (sumP f m : Int)))
      have c1 := (hb0.cell (m * 4 + 1)).trans (ar_other d1 (by omega))
      have HMK := hide (by
        have := markIntS_any (f m).1 (f m).2.1 (f m).2.2 base (X m) (k + sumP f m + 1) _ hr0 (by omega) (by omega)
        rw [show ((k + sumP f m + 1 : Nat) : Int) = (k : Int) + (sumP f m : Int) + 1 by push_cast; rfl] at this
        exact this)
      have HCL := hide (fun (w1 : World) (T1 : Turn (fun j => (svR (f m)).ownBlock = some j) (wr.setCell ⟨g, m * 4, none⟩ (.int .i64 ((k : Int) + (sumP f m : Int)))) w1) => by
        have b1 := turn_blk T1 hb0 (fun e => hng ⟨m, hlt, e⟩)
        exact And.intro ((b1.cell (m * 4 + 2)).trans (ar_other d2 (by omega))) (And.intro ((b1.cell (m * 4 + 3)).trans (ar_other d3 (by omega))) (fun i => b1.frozen i)))
      have HFIN := hide (fun (w1 : World) (y z : Int) (hy : y = ((k + sumP f m + 1 + (f m).2.1 : Nat) : Int)) (hz : z = ((k + sumP f m + 1 + (f m).2.1 + 1 : Nat) : Int)) (O1 : OI w1 base (svR (f m)) (marksI (k + sumP f m + 1) (f m).2.1)) (T1 : Turn (fun j => (svR (f m)).ownBlock = some j) (wr.setCell ⟨g, m * 4, none⟩ (.int .i64 ((k : Int) + (sumP f m : Int)))) w1) => show Rp ((w1.setCell ⟨g, m * 4 + 2, none⟩ (.int .i64 y)).setCell ⟨g, m * 4 + 3, none⟩ (.int .i64 z)) base (some ⟨g, 0, none⟩) n f (fun i => if i < m + 1 then mvP k f i else V i) (fun i => if i < m + 1 then mrkP k f i else X i) ∧ Turn (Sp (some ⟨g, 0, none⟩) f n) w ((w1.setCell ⟨g, m * 4 + 2, none⟩ (.int .i64 y)).setCell ⟨g, m * 4 + 3, none⟩ (.int .i64 z)) from by
        refine ⟨R.step hng hb hc hlt _ y z (fun i hi => ?_) ?_ (fun i hi => ?_) T1 ?_, ?_⟩
        · by_cases e2 : i < m
          · rw [if_pos e2, if_pos (by omega)]
          · rw [if_neg e2, if_neg (by omega)]
        · rw [if_pos (by omega), hy, hz]; unfold mvP; push_cast; rfl
        · by_cases e2 : i < m
          · rw [if_pos e2, if_pos (by omega)]
          · rw [if_neg e2, if_neg (by omega)]
        · simp only [show m < m + 1 by omega, if_true]; exact O1
        · exact ((T.trans (T0.mono (fun j hj => .inr ⟨by omega, g, rfl, hj⟩))).trans (T1.mono (fun j hj => .inl ⟨m, hlt, hj⟩))).trans (((turn_set w1 g (m * 4 + 2) _).trans (turn_set _ g (m * 4 + 3) _)).mono (fun j hj => .inr ⟨by omega, g, rfl, hj⟩)))
      have HSU := hide (show sumP f (m + 1) = sumP f m + ((f m).2.1 + 3) from rfl)
      clear R T hb hc hr T0 hr0 hb0 d0 d1 d2 d3
      unfold svR at c1 HFIN HCL
      generalize sumP f m = sm at *
      generalize f m = fm at *
      obtain ⟨fa, fn, fc⟩ := fm
      dsimp only at *
      have hf0 := hf (m * 4)
      clear hf
      go_wp2_with fail
      refine HMK.out.mono ?_
      rintro e w1 ⟨rfl, O1, T1⟩
      obtain ⟨e2, e3, e4⟩ := HCL.out w1 T1
      have e42 := e4 (m * 4 + 2)
      have e43 := e4 (m * 4 + 3)
      have HX := hide (fun y z hy hz => HFIN.out w1 y z hy hz O1 T1)
      clear O1 T1 HFIN HMK c0 c1 HCL e4
      go_wp2
      go_roundw
      case rel => exact ⟨m + 1, by omega, by go_num, by rw [HSU.out]; go_num, (HX.out _ _ (by go_num) (by go_num)).1, (HX.out _ _ (by go_num) (by go_num)).2⟩
      case measure => simp [intOf]; omega
    · have e : Hid (m = n) := by show m = n; omega
      have HX := hide (And.intro R T)
      clear R T
      go_wp2
      go_ret
      refine ⟨ret_int (by rw [e.out]), ?_, HX.out.2⟩
      have R := HX.out.1
      rw [e.out] at R
      refine ⟨fun h0 => ?_, fun i hi => ?_, R.apart, R.hb⟩
      · obtain ⟨g, cs, h1, h2, h3, h4⟩ := R.head h0
        refine ⟨g, cs, h1, h2, h3, fun i hi => ?_⟩
        have := h4 i hi
        simp only [hi, if_true] at this
        exact this
      · have := R.rows i hi
        simp only [hi, if_true] at this
        exact this

set_option maxHeartbeats 2000000 in
theorem markLayout_big (a0 : Option Addr) (n c0 : Nat) (st : Int) (a2 : Option Addr) (sn c2 : Nat) (fl ra : Int) (a5 : Option Addr) (tn c5 : Nat) (k base : Nat) (f : Nat → Rw3) (V : Nat → Int × Int × Int) (X : Nat → List Int) (Z : List Int) (F : Nat → TB) (G : Nat → List Tg) (w : World) (h : Y3 w base a0 n f V X (.slice a2 sn c2) Z a5 tn F G)
    (hn : n ≤ 1048576) (hrp : ∀ i, i < n → (f i).2.1 ≤ 1048576) (hsn : sn ≤ 1048576) (htn : tn ≤ 1048576) (hrt : ∀ i, i < tn → (F i).1.length ≤ 1048576) (hz : k + sumP f n + sn + sumT F tn ≤ 4194304) :
    Calls Tryz.prog 26 #[.agg #[.slice a0 n c0, .int .i64 st, .slice a2 sn c2, .int .i64 fl, .int .i64 ra, .slice a5 tn c5], .int .i64 k] w fun e w' => e = .returned (.int .i64 ((k + sumP f n + sn + sumT F tn : Nat) : Int)) ∧ Y3 w' base a0 n f (mvP k f) (mrkP k f) (.slice a2 sn c2) (marksI (k + sumP f n) sn) a5 tn F (mrkT (k + sumP f n + sn) F) ∧ Turn (Sy a0 n f (.slice a2 sn c2) tn F) w w' := by
  have k0 := Blk.new w #[.slice a0 n c0, .int .i64 st, .slice a2 sn c2, .int .i64 fl, .int .i64 ra, .slice a5 tn c5] 36
  have B0 : Below w.heap.size w (w.alloc (.cells #[.slice a0 n c0, .int .i64 st, .slice a2 sn c2, .int .i64 fl, .int .i64 ra, .slice a5 tn c5] 36)) := (Below.refl _ _).alloc (Nat.le_refl _) _
  have T0 : Turn (Sy a0 n f (.slice a2 sn c2) tn F) w (w.alloc (.cells #[.slice a0 n c0, .int .i64 st, .slice a2 sn c2, .int .i64 fl, .int .i64 ra, .slice a5 tn c5] 36)) := turn_below B0
  have hnS : ¬ Sy a0 n f (.slice a2 sn c2) tn F w.heap.size := fun e => by have := h.lt e; omega
  have Y0 := h.below B0
  have HF := hide (fun (W : World) (hp : Rp W base a0 n f V X) => markPlaceS_big a0 n c0 k base f V X W hp (by omega) hrp (by omega))
  have HT := hide (fun (W : World) (Q : Nat) (hQ : Q + sumT F tn ≤ 4194304) (ht : Rt W base a5 tn F G) => markTargetSS_big a5 tn c5 Q base F G W ht (by omega) hrt hQ)
  generalize sumP f n = sp at *
  generalize sumT F tn = stt at *
  clear h B0
  obtain ⟨q0, q1, q2, q3, q4, q5⟩ := k0.lay
  have HY := hide Y0
  have HTU := hide T0
  clear Y0 T0
  go_enter Tryz.func26, Tryz.ntmps26
  go_wp2_with fail
  refine (HF.out _ HY.out.p).mono ?_
  rintro e w1 ⟨rfl, O1, T1⟩
  have Y1 := HY.out.set_p O1 T1
  have k1 := turn_blk T1 k0 (fun s => hnS (.inl s))
  have TT1 := HTU.out.trans (T1.mono (fun j hj => .inl hj))
  clear HY HTU k0 q0 q1 q2 q3 q4 q5 O1 T1 HF
  obtain ⟨q0, q1, q2, q3, q4, q5⟩ := k1.lay
  go_wp2_with fail
  refine (markIntS_any a2 sn c2 base Z (k + sp) _ Y1.s (by omega) (by omega)).mono ?_
  rintro e w2 ⟨rfl, O2, T2⟩
  have Y2 := Y1.set_s O2 T2
  have k2 := turn_blk T2 k1 (fun s => hnS (.inr (.inl s)))
  have TT2 := TT1.trans (T2.mono (fun j hj => .inr (.inl hj)))
  clear Y1 k1 TT1 O2 T2 q0 q1 q2 q3 q4 q5
  obtain ⟨q0, q1, q2, q3, q4, q5⟩ := k2.lay
  go_wp2_with fail
  refine (HT.out _ (k + sp + sn) (by omega) Y2.t).mono ?_
  rintro e w3 ⟨rfl, O3, T3⟩
  have Y3' := hide (Y2.set_t O3 T3)
  have TT3 := hide (TT2.trans (T3.mono (fun j hj => .inr (.inr hj))))
  clear Y2 k2 TT2 O3 T3 q0 q1 q2 q3 q4 q5
  go_wp2
  go_ret
  exact ⟨by go_num, Y3'.out, TT3.out⟩

/-- how many marks a layout that came in takes -/
theorem sumP_le3 (xs : List PB) : ∀ n, sumP (plF xs) n ≤ 3 * n + upS (fun j => (xs.getD j zPB).1.banks.length) n
  | 0 => by simp [sumP, upS]
  | n + 1 => by
    have := sumP_le3 xs n
    show sumP (plF xs) n + ((xs.getD n zPB).1.banks.length + 3) ≤ 3 * (n + 1) + (upS _ n + (xs.getD n zPB).1.banks.length)
    omega
theorem sumT_le3 (ts : List TB) : ∀ n, sumT (tbF ts) n ≤ 3 * upS (fun j => (ts.getD j zTB).1.length) n
  | 0 => by simp [sumT, upS]
  | n + 1 => by
    have := sumT_le3 ts n
    show sumT (tbF ts) n + 3 * (ts.getD n zTB).1.length ≤ 3 * (upS _ n + (ts.getD n zTB).1.length)
    omega
theorem lySz_eq {L : Lay} {xs xs' : List PB} {ts ts' : List TB} (h1 : xs.map (fun x => x.1) = xs'.map (fun x => x.1)) (h2 : ts.map (fun x => x.1) = ts'.map (fun x => x.1)) : lySz L xs ts = lySz L xs' ts' := by
  have l1 : xs.length = xs'.length := by have := congrArg List.length h1; simpa using this
  have l2 : ts.length = ts'.length := by have := congrArg List.length h2; simpa using this
  have key : ∀ (f g : Nat → Nat) (n : Nat), (∀ i, i < n → f i = g i) → upS f n = upS g n := by
    intro f g n
    induction n with
    | zero => intro _; rfl
    | succ n ih => intro h; show upS f n + f n = upS g n + g n; rw [ih (fun i hi => h i (by omega)), h n (by omega)]
  unfold lySz plSz tsSz
  rw [l1, l2]
  congr 1
  · congr 2
    refine key _ _ _ (fun i hi => ?_)
    have e := congrArg (fun l => l.getD i zPB.1) h1
    try simp only at e
    rw [map_getD _ _ _ zPB _ (by omega), map_getD _ _ _ zPB _ hi] at e
    rw [e]
  · congr 1
    refine key _ _ _ (fun i hi => ?_)
    have e := congrArg (fun l => l.getD i zTB.1) h2
    try simp only at e
    rw [map_getD _ _ _ zTB _ (by omega), map_getD _ _ _ zTB _ hi] at e
    rw [e]
end Go.Proofs.YtngdgogjlpjjpaeGreat

namespace Go.Proofs.YtngdgogjlpjjpaeGreat
open Go.RowKit
set_option linter.unusedVariables false
set_option linter.unusedSimpArgs false
set_option maxRecDepth 100000

theorem drew_sz2 (w : World) : w.drew.heap.size = w.heap.size := rfl
structure Z4 (zc : Array Value) (t : TypeId) (n : Nat) (ms : List Md) (L : Lay) (W0 X : World) (o : Option Nat) (g : Nat) (m : List Md) (b0 : Option Addr) (d0 : Nat) (ys : List PB) (b2 : Option Addr) (d2 : Nat) (b5 : Option Addr) (d5 : Nat) (us : List TB) : Prop where
  z : Z2 zc t n ms W0 X o g m
  y : LayO X W0.heap.size L b0 d0 ys b2 d2 b5 d5 us
section
variable {zc : Array Value} {t : TypeId} {n g : Nat} {ms m : List Md} {L : Lay} {W0 X Y : World} {o : Option Nat} {b0 : Option Addr} {d0 : Nat} {ys : List PB} {b2 : Option Addr} {d2 : Nat} {b5 : Option Addr} {d5 : Nat} {us : List TB}
theorem Z4.below (h : Z4 zc t n ms L W0 X o g m b0 d0 ys b2 d2 b5 d5 us) (hb : Below X.heap.size X Y) : Z4 zc t n ms L W0 Y o g m b0 d0 ys b2 d2 b5 d5 us := ⟨h.z.below hb, h.y.below' hb⟩
theorem Z4.drew (h : Z4 zc t n ms L W0 X o g m b0 d0 ys b2 d2 b5 d5 us) : Z4 zc t n ms L W0 X.drew o g m b0 d0 ys b2 d2 b5 d5 us := ⟨h.z.drew, h.y.below' (Below.refl _ _).drew⟩
theorem Z4.box (h : Z4 zc t n ms L W0 X none g m b0 d0 ys b2 d2 b5 d5 us) : Z4 zc t n ms L W0 (X.alloc (.cells zc t)) (some X.heap.size) g m b0 d0 ys b2 d2 b5 d5 us := ⟨h.z.box, h.y.below' ((Below.refl _ _).alloc (Nat.le_refl _) _)⟩
end
theorem LyT.lr {w : World} {L : Lay} {a0 : Option Addr} {c0 : Nat} {xs : List PB} {a2 : Option Addr} {c2 : Nat} {a5 : Option Addr} {c5 : Nat} {ts : List TB} (h : LyT w L a0 c0 xs a2 c2 a5 c5 ts) (hs : lySz L xs ts ≤ 1048576) : LayR L where
  p := by
    intro x hx
    rw [← h.ps] at hx
    obtain ⟨y, hy, rfl⟩ := List.mem_map.1 hx
    obtain ⟨i, hi, rfl⟩ := List.getElem_of_mem hy
    have := (h.p.2.2.2.1 i hi).2.2.1
    simpa [List.getD_eq_getElem?_getD, hi] using this
  s := h.s.2.2.1
  n := by
    have l1 : L.places.length = xs.length := by rw [← h.ps, List.length_map]
    have l2 : L.targets.length = ts.length := by rw [← h.tt, List.length_map]
    unfold lySz plSz tsSz at hs
    refine ⟨by omega, by omega, fun x hx => ?_⟩
    rw [← h.tt] at hx
    obtain ⟨y, hy, rfl⟩ := List.mem_map.1 hx
    obtain ⟨i, hi, rfl⟩ := List.getElem_of_mem hy
    have := upS_le (fun j => (ts.getD j zTB).1.length) ts.length i hi
    have e : ts.getD i zTB = ts[i] := by simp [List.getD_eq_getElem?_getD, hi]
    simp only [e] at this
    omega
theorem rowm_cnt3 {W w : World} {c n cap : Nat} {a : Option Addr} {ms ms' : List Md} (h : RowM W c n ms ms') (hl : ms'.length = n) (hm : MS w a n cap ms) : upS (cntM ms' (fun i => bnF (ms'.getD i zMd))) n ≤ 3 * (n + upS (fun j => (ms.getD j zMd).size) n) := by
  have key : ∀ i, i < n → cntM ms' (fun i => bnF (ms'.getD i zMd)) i ≤ 2 + 3 * (ms.getD i zMd).size := fun i hi => by
    have hc := (h.2.2 i (by omega)).2
    have e1 := (copy_rws (hm.2.2.2.1 i hi) hc).2
    have e2 : (ms'.getD i zMd).tn = (ms.getD i zMd).tn ∧ (ms'.getD i zMd).bn = (ms.getD i zMd).bn ∧ (ms'.getD i zMd).dn = (ms.getD i zMd).dn ∧ (ms'.getD i zMd).rn = (ms.getD i zMd).rn ∧ (ms'.getD i zMd).im = (ms.getD i zMd).im ∧ (ms'.getD i zMd).en = (ms.getD i zMd).en := by
      obtain ⟨g1, g2, g3, g5, g6, g7, gs, e, _⟩ := hc
      rw [e]
      exact ⟨rfl, rfl, rfl, rfl, rfl, rfl⟩
    obtain ⟨f1, f2, f3, f4, f5, f6⟩ := e2
    have e3 : (ms.getD i zMd).size = (ms.getD i zMd).nm.size + (ms.getD i zMd).tn + ((ms.getD i zMd).bn + upS (fun j => ((ms.getD i zMd).bl.getD j zB).2.1) (ms.getD i zMd).bn) + (ms.getD i zMd).dn + (ms.getD i zMd).rn + ((ms.getD i zMd).im + upS (fun j => ((ms.getD i zMd).ss.getD j zS).size) (ms.getD i zMd).im) + ((ms.getD i zMd).en + upS (fun j => ((ms.getD i zMd).es.getD j zE).1.size) (ms.getD i zMd).en) := rfl
    unfold cntM
    rw [e1, f1, f3, f4, f5, f6, e3]
    omega
  have hsum : ∀ q, q ≤ n → upS (cntM ms' (fun i => bnF (ms'.getD i zMd))) q ≤ 2 * q + 3 * upS (fun j => (ms.getD j zMd).size) q := by
    intro q
    induction q with
    | zero => intro _; simp [upS]
    | succ q ih =>
      intro hq
      have h1 := ih (by omega)
      have h2 := key q (by omega)
      show upS _ q + cntM ms' (fun i => bnF (ms'.getD i zMd)) q ≤ 2 * (q + 1) + 3 * (upS _ q + (ms.getD q zMd).size)
      omega
  have := hsum n (Nat.le_refl _)
  omega
end Go.Proofs.YtngdgogjlpjjpaeGreat

namespace Go.Proofs.YtngdgogjlpjjpaeGreat
open Go.RowKit
set_option linter.unusedVariables false

/-- the mark of a region: three numbers and three bits that follow k -/
def mk6 (k : Int) : Rg := (k, k + 1, k + 1 + 1, ((k + 1 + 1 + 1) % 3 == 0), ((k + 1 + 1 + 1 + 1) % 3 == 0), ((k + 1 + 1 + 1 + 1 + 1) % 3 == 0))
def marksR (k n : Nat) : List Rg := (List.range n).map fun i => mk6 ((k + 6 * i : Nat) : Int)
theorem marksR_len (k n : Nat) : (marksR k n).length = n := by simp [marksR]
theorem marksR_getD (k n m : Nat) (h : m < n) : (marksR k n).getD m z6 = mk6 ((k + 6 * m : Nat) : Int) := by simp [marksR, List.getD_eq_getElem?_getD, h]
def mixR (rs : List Rg) (k m : Nat) : List Rg := (List.range rs.length).map fun i => if i < m then mk6 ((k + 6 * i : Nat) : Int) else rs.getD i z6
theorem mixR_zero (rs : List Rg) (k : Nat) : mixR rs k 0 = rs := by
  apply List.ext_getElem
  · simp [mixR]
  · intro i h1 h2; simp [mixR, h2]
theorem mixR_all (rs : List Rg) (k : Nat) : mixR rs k rs.length = marksR k rs.length := by
  apply List.ext_getElem
  · simp [mixR, marksR]
  · intro i h1 h2
    simp [marksR] at h2
    simp [mixR, marksR, h2]
theorem mixR_len (rs : List Rg) (k m : Nat) : (mixR rs k m).length = rs.length := by simp [mixR]
theorem mixR_set (rs : List Rg) (k m : Nat) (h : m < rs.length) : (mixR rs k m).set m (mk6 ((k + 6 * m : Nat) : Int)) = mixR rs k (m + 1) := by
  apply List.ext_getElem
  · simp [mixR]
  · intro i h1 h2
    simp only [mixR, List.getElem_set, List.getElem_map, List.getElem_range]
    by_cases hik : m = i
    · subst hik; simp
    · by_cases h3 : i < m
      · simp [hik, h3, show i < m + 1 by omega]
      · simp [hik, h3, show ¬ i < m + 1 by omega]

set_option maxHeartbeats 1000000 in
theorem markRegionS_some (g n cap : Nat) (rs : List Rg) (k : Nat) (w : World) (hl : rs.length = n) (h : RowW w g rs) (hn : n ≤ 2097152) (hk : k ≤ 4194304) :
    Calls Tryz.prog 33 #[.slice (some ⟨g, 0, none⟩) n cap, .int .i64 k] w fun e w' => e = .returned (.int .i64 ((k + 6 * n : Nat) : Int)) ∧ RowW w' g (marksR k n) ∧ Turn (fun j => j = g) w w' := by
  go_enter Tryz.func33, Tryz.ntmps33
  go_wp2
  go_loopw [1, 5] (fun x i wr => ∃ m : Nat, m ≤ n ∧ i = .int .i64 m ∧ x = .int .i64 ((k + 6 * m : Nat) : Int) ∧ RowW wr g (mixR rs k m) ∧ Turn (fun j => j = g) w wr) (fun _ i _ => n - (intOf i).toNat)
  case atStart => exact ⟨0, Nat.zero_le _, rfl, rfl, by rw [mixR_zero]; exact h, Turn.refl _ _⟩
  case round =>
    obtain ⟨m, hm, rfl, rfl, hO, hT⟩ := hrel
    by_cases hlt : m < n
    · have hlt' : (m : Int) < (n : Int) := by omega
      obtain ⟨p1, p2, p3, p4, p5, p6⟩ := hO.2 m (by rw [mixR_len]; omega)
      have hf := hO.frozen
      have hset := hO.set m (by rw [mixR_len]; omega) (mk6 ((k + 6 * m : Nat) : Int))
      rw [mixR_set rs k m (by omega)] at hset
      have hT2 := hT.trans (set6_turn wr g (m * 6) (mk6 ((k + 6 * m : Nat) : Int)))
      have HO := hide hset
      have HT := hide hT2
      clear hset hT2 hO hT
      obtain ⟨K, hK⟩ : ∃ K : Int, K = ((k + 6 * m : Nat) : Int) := ⟨_, rfl⟩
      have hK0 : 0 ≤ K := by omega
      have hK1 : K ≤ 33554432 := by omega
      have HK := hide (show K + 1 + 1 + 1 + 1 + 1 + 1 = ((k + 6 * (m + 1) : Nat) : Int) by omega)
      rw [← hK] at HO HT ⊢
      clear hK
      go_wp2
      go_roundw
      case rel => exact ⟨m + 1, by omega, by go_num, by rw [HK.out], HO.out, HT.out⟩
      case measure => simp [intOf]; omega
    · have e : Hid (m = n) := by show m = n; omega
      go_wp2
      go_ret
      exact ⟨ret_int (by rw [e.out]), by rw [e.out, ← hl, mixR_all] at hO; rw [hl] at hO; exact hO, hT⟩

set_option maxHeartbeats 1000000 in
theorem markRegionS_zero (a : Option Addr) (cap k : Nat) (w : World) :
    Calls Tryz.prog 33 #[.slice a 0 cap, .int .i64 k] w fun e w' => e = .returned (.int .i64 k) ∧ w = w' := by
  go_enter Tryz.func33, Tryz.ntmps33
  go_wp2
  go_loop [1, 5] (fun x i => i = .int .i64 0 ∧ x = .int .i64 k) (fun _ _ => 0)
  case atStart => exact ⟨rfl, rfl⟩
  case round =>
    obtain ⟨rfl, rfl⟩ := hrel
    go_wp2
    go_ret
    exact ⟨rfl, rfl⟩

theorem markRegionS_any (a : Option Addr) (n cap base : Nat) (rs : List Rg) (k : Nat) (w : World) (h : ORg w base (.slice a n cap) rs) (hn : n ≤ 2097152) (hk : k ≤ 4194304) :
    Calls Tryz.prog 33 #[.slice a n cap, .int .i64 k] w fun e w' => e = .returned (.int .i64 ((k + 6 * n : Nat) : Int)) ∧ RS w' a n cap (marksR k n) ∧ Turn (fun j => base ≤ j ∧ (Value.slice a n cap).ownBlock = some j) w w' := by
  have hr := or_rs h
  have hmx : n ≤ cap := hr.2.2.2.2
  have hml : n ≤ maxLen := hr.2.1
  have hwf : ∀ g ∈ marksR k n, wfi g.1 ∧ wfi g.2.1 ∧ wfi g.2.2.1 := by
    intro g hg
    simp [marksR] at hg
    obtain ⟨i, hi, rfl⟩ := hg
    simp only [mk6, wfi]
    omega
  by_cases h0 : n = 0
  · subst h0
    refine (markRegionS_zero a cap k w).mono fun e w' he => ?_
    obtain ⟨rfl, rfl⟩ := he
    exact ⟨rfl, ⟨rfl, hml, hwf, fun h => absurd rfl h, hmx⟩, Turn.refl _ _⟩
  · obtain ⟨g, rfl, hg⟩ : ∃ g, a = some ⟨g, 0, none⟩ ∧ base ≤ g := by
      obtain ⟨hl, ⟨h0', _⟩ | ⟨g, cap', cur, hv, hg, _⟩⟩ := h.1
      · simp at h0'; exact absurd h0'.2.1 h0
      · simp at hv; exact ⟨g, hv.1, hg⟩
    refine (markRegionS_some g n cap rs k w hr.1 (or_roww h h0) hn hk).mono fun e w' he => ⟨he.1, ⟨marksR_len k n, hml, hwf, fun _ => ⟨g, 0, rfl, fun i hi => ?_⟩, hmx⟩, he.2.2.mono ?_⟩
    · rw [Nat.zero_add]; exact he.2.1.2 i (by rw [marksR_len]; exact hi)
    · intro j hj
      subst hj
      exact ⟨hg, rfl⟩
end Go.Proofs.YtngdgogjlpjjpaeGreat

namespace Go.Proofs.YtngdgogjlpjjpaeGreat
open Go.RowKit
set_option linter.unusedVariables false

set_option maxHeartbeats 1000000 in
theorem heldRegionS_any (a : Option Addr) (n cap : Nat) (k : Nat) (w : World) (h : RS w a n cap (marksR k n)) (hn : n ≤ 2097152) (hk : k ≤ 4194304) :
    Calls Tryz.prog 34 #[.slice a n cap, .int .i64 k] w fun e w' => e = .returned (.int .i64 ((k + 6 * n : Nat) : Int)) ∧ w = w' := by
  go_enter Tryz.func34, Tryz.ntmps34
  go_wp2
  go_loop [1, 5] (fun x i => ∃ m : Nat, m ≤ n ∧ i = .int .i64 m ∧ x = .int .i64 ((k + 6 * m : Nat) : Int)) (fun _ i => n - (intOf i).toNat)
  case atStart => exact ⟨0, Nat.zero_le _, rfl, rfl⟩
  case round =>
    obtain ⟨m, hm, rfl, rfl⟩ := hrel
    by_cases hlt : m < n
    · have hlt' : (m : Int) < (n : Int) := by omega
      obtain ⟨b, off, rfl⟩ := h.some (by omega)
      have hc := h.at m hlt
      rw [marksR_getD k n m hlt] at hc
      obtain ⟨K, hK⟩ : ∃ K : Int, K = ((k + 6 * m : Nat) : Int) := ⟨_, rfl⟩
      have hK0 : 0 ≤ K := by omega
      have hK1 : K ≤ 33554432 := by omega
      have HK := hide (show K + 1 + 1 + 1 + 1 + 1 + 1 = ((k + 6 * (m + 1) : Nat) : Int) by omega)
      rw [← hK] at hc ⊢
      obtain ⟨q1, q2, q3, q4, q5, q6⟩ := hc
      simp only [mk6] at q1 q2 q3 q4 q5 q6
      have e1 : (K != K) = false := by simp
      have e2 : (K + 1 != K + 1) = false := by simp
      have e3 : (K + 1 + 1 != K + 1 + 1) = false := by simp
      clear hK
      go_wp2
      go_round
      case rel => exact ⟨m + 1, by omega, by go_num, by rw [HK.out]⟩
      case measure => simp [intOf]; omega
    · have e : Hid (m = n) := by show m = n; omega
      go_wp2
      go_ret
      exact ⟨ret_int (by rw [e.out]), rfl⟩
end Go.Proofs.YtngdgogjlpjjpaeGreat

namespace Go.Proofs.YtngdgogjlpjjpaeGreat
open Go.RowKit
set_option linter.unusedVariables false

set_option maxHeartbeats 1000000 in
theorem eqRegion_same (b l o : Int) (r x y : Bool) (w : World) :
    Calls Tryz.prog 103 #[.agg #[.int .i64 b, .int .i64 l, .int .i64 o, .bool r, .bool x, .bool y], .agg #[.int .i64 b, .int .i64 l, .int .i64 o, .bool r, .bool x, .bool y]] w fun e w' => e = .returned (.bool true) ∧ Below w.heap.size w w' := by
  have e1 : (b != b) = false := by simp
  have e2 : (l != l) = false := by simp
  have e3 : (o != o) = false := by simp
  have e4 : (r != r) = false := by simp
  have e5 : (x != x) = false := by simp
  have e6 : (y != y) = false := by simp
  go_enter Tryz.func103, Tryz.ntmps103
  go_wp2
  go_ret
  exact ⟨rfl, ((Below.refl _ _).alloc (Nat.le_refl _) _).alloc (by simp) _⟩

set_option maxHeartbeats 2000000 in
theorem eqRegionS_same (x x' : Option Addr) (n cap cap' : Nat) (rs : List Rg) (w : World) (h : RS w x n cap rs) (h' : RS w x' n cap' rs) :
    Calls Tryz.prog 32 #[.slice x n cap, .slice x' n cap'] w fun e w' => e = .returned (.bool true) ∧ Below w.heap.size w w' := by
  have hl := h.1
  have hmx := h.2.1
  unfold maxLen at hmx
  have hne : ((n : Int) != (n : Int)) = false := by simp
  go_enter Tryz.func32, Tryz.ntmps32
  go_wp2
  go_loopw [5] (fun i wr => ∃ k : Nat, k ≤ n ∧ i = .int .i64 k ∧ Below w.heap.size w wr) (fun i _ => n - (intOf i).toNat)
  case atStart => exact ⟨0, Nat.zero_le _, rfl, Below.refl _ _⟩
  case round =>
    obtain ⟨k, hk, rfl, hB⟩ := hrel
    by_cases hlt : k < n
    · have hlt' : (k : Int) < (n : Int) := by omega
      obtain ⟨b, off, rfl⟩ := h.some (by omega)
      obtain ⟨b', off', rfl⟩ := h'.some (by omega)
      have hat := (h.below hB).at k hlt
      have hat' := (h'.below hB).at k hlt
      generalize rs.getD k z6 = r at *
      obtain ⟨g1, g2, g3, g4, g5, g6⟩ := r
      have q1 := hat.1
      have q2 := hat.2.1
      have q3 := hat.2.2.1
      have q4 := hat.2.2.2.1
      have q5 := hat.2.2.2.2.1
      have q6 := hat.2.2.2.2.2
      have p1 := hat'.1
      have p2 := hat'.2.1
      have p3 := hat'.2.2.1
      have p4 := hat'.2.2.2.1
      have p5 := hat'.2.2.2.2.1
      have p6 := hat'.2.2.2.2.2
      simp only at q1 q2 q3 q4 q5 q6 p1 p2 p3 p4 p5 p6
      clear hat hat'
      go_wp2
      go_region_held3 (fun w' => w'.cell? ⟨b, off + k * 6, none⟩ = some (.int .i64 g1) ∧ w'.cell? ⟨b, off + k * 6 + 1, none⟩ = some (.int .i64 g2) ∧ w'.cell? ⟨b, off + k * 6 + 2, none⟩ = some (.int .i64 g3) ∧ w'.cell? ⟨b, off + k * 6 + 3, none⟩ = some (.bool g4) ∧ w'.cell? ⟨b, off + k * 6 + 4, none⟩ = some (.bool g5) ∧ w'.cell? ⟨b, off + k * 6 + 5, none⟩ = some (.bool g6) ∧
          w'.cell? ⟨b', off' + k * 6, none⟩ = some (.int .i64 g1) ∧ w'.cell? ⟨b', off' + k * 6 + 1, none⟩ = some (.int .i64 g2) ∧ w'.cell? ⟨b', off' + k * 6 + 2, none⟩ = some (.int .i64 g3) ∧ w'.cell? ⟨b', off' + k * 6 + 3, none⟩ = some (.bool g4) ∧ w'.cell? ⟨b', off' + k * 6 + 4, none⟩ = some (.bool g5) ∧ w'.cell? ⟨b', off' + k * 6 + 5, none⟩ = some (.bool g6)) (go_keep)
        (first
          | (go_at_call 103; refine (eqRegion_same g1 g2 g3 g4 g5 g6 _).mono ?_; rintro e w1 ⟨rfl, hb1⟩; replace hb1 := undrew hb1; obtain ⟨hc1, hf1⟩ := bcell hb1; have hlb := World.block_lt_of_cell? _ _ q1; have hlb' := World.block_lt_of_cell? _ _ p1))
      clear hc1 hf1 q1 q2 q3 q4 q5 q6 p1 p2 p3 p4 p5 p6
      go_wp2
      go_roundw
      case rel => exact ⟨k + 1, by omega, by go_num, hB.trans (hb1.mono hB.size)⟩
      case measure => simp [intOf]; omega
    · go_wp2
      go_ret
      exact ⟨rfl, hB⟩
end Go.Proofs.YtngdgogjlpjjpaeGreat
