import Derived.Test.YtngdgogjlpjjpaeGreatGa27
import Derived.Test.YtngdgogjlpjjpaeGreatGa32
namespace Go.Proofs.YtngdgogjlpjjpaeGreat
open Go.RowKit Classical
set_option linter.unusedVariables false
set_option linter.unusedSimpArgs false
set_option maxRecDepth 100000

set_option maxHeartbeats 1000000 in
theorem toTarget_any (x y z : Int) (w : World) :
    Calls Tryz.prog 30 #[.agg #[.int .i64 x, .int .i64 y, .int .i64 z]] w fun e w' => e = .returned (.agg #[.int .i64 x, .int .i64 y, .int .i64 z]) ∧ Below w.heap.size w w' := by
  go_enter Tryz.func30, Tryz.ntmps30
  go_wp2
  refine bodyPost_ret (v := .agg #[.int .i64 x, .int .i64 y, .int .i64 z]) (by simp [results, Tryz.results30, go_sem]) rfl ⟨rfl, ?_⟩
  exact ((((Below.refl _ _).alloc (Nat.le_refl _) _).alloc (by simp) _).alloc (by simp; omega) _)
theorem clG_len : ∀ x : Tg, (clG x).length = 3 := fun x => rfl

set_option maxHeartbeats 2000000 in
theorem toTargetS_any (a : Option Addr) (n cap : Nat) (zs : List Tg) (w : World) (h : TgS w a n cap zs) (hn : n ≤ 1048576) :
    Calls Tryz.prog 141 #[.slice a n cap] w fun e w' => e = .returned (.slice (some ⟨w.heap.size, 0, none⟩) n n) ∧ OG 71 3 clG w' w.heap.size (.slice (some ⟨w.heap.size, 0, none⟩) n n) zs ∧ Below w.heap.size w w' := by
  obtain ⟨i0, hi, hz0, hz1, hz2⟩ := info_parts infoG
  have hl := h.1
  go_enter Tryz.func141, Tryz.ntmps141
  go_wp2_with (at_make; refine wpList_make_full _ rfl _ _ 189 rfl w.heap.size 71 i0 (.agg #[.int .i64 0, .int .i64 0, .int .i64 0]) 3 Tryz.underlying189 hi hz0 hz1 .i64 .i64 _ _ n rfl rfl rfl rfl (by rw [hz2]; omega) (by unfold maxLen; omega) (Nat.le_refl _) ?_; intro w1 hown hgr)
  have HR0 := hide (And.intro (rowF_made (f := clG) zT (.agg #[.int .i64 0, .int .i64 0, .int .i64 0]) rfl rfl hown) (below_grown hgr))
  clear hown hgr hi hz0 hz1 hz2
  go_loopw [4] (fun i wr => ∃ (m : Nat) (F : Nat → Tg), m ≤ n ∧ i = .int .i64 m ∧ RowF 71 3 clG wr w.heap.size n F ∧ (∀ i, i < m → F i = zs.getD i zT) ∧ Below w.heap.size w wr) (fun i _ => n - (intOf i).toNat)
  case atStart => exact ⟨0, _, Nat.zero_le _, rfl, HR0.out.1, fun i hi => absurd hi (by omega), HR0.out.2⟩
  case round =>
    obtain ⟨m, F, hm, rfl, R, hF, hB⟩ := hrel
    clear HR0
    by_cases hlt : m < n
    · have hlt' : (m : Int) < (n : Int) := by omega
      obtain ⟨b, off, rfl, y0, y1, y2⟩ := (h.below hB).at m hlt
      have HFIN := hide (fun (W : World) (hW : Below wr.heap.size wr W) => show RowF 71 3 clG (((W.setCell ⟨w.heap.size, m * 3, none⟩ (.int .i64 (zs.getD m zT).1)).setCell ⟨w.heap.size, m * 3 + 1, none⟩ (.int .i64 (zs.getD m zT).2.1)).setCell ⟨w.heap.size, m * 3 + 2, none⟩ (.int .i64 (zs.getD m zT).2.2)) w.heap.size n (fun i => if i = m then zs.getD m zT else F i) ∧ Below w.heap.size w (((W.setCell ⟨w.heap.size, m * 3, none⟩ (.int .i64 (zs.getD m zT).1)).setCell ⟨w.heap.size, m * 3 + 1, none⟩ (.int .i64 (zs.getD m zT).2.1)).setCell ⟨w.heap.size, m * 3 + 2, none⟩ (.int .i64 (zs.getD m zT).2.2)) from
        ⟨(R.below hW).set3 m hlt _ _ _ _ rfl, (((hB.trans (hW.mono hB.size)).setCell (p := ⟨w.heap.size, m * 3, none⟩) (Nat.le_refl _) _).setCell (p := ⟨w.heap.size, m * 3 + 1, none⟩) (Nat.le_refl _) _).setCell (p := ⟨w.heap.size, m * 3 + 2, none⟩) (Nat.le_refl _) _⟩)
      have HCE := hide (fun (W : World) (hW : Below wr.heap.size wr W) => show (∃ u, W.cell? ⟨w.heap.size, m * 3, none⟩ = some u) ∧ (∃ u, W.cell? ⟨w.heap.size, m * 3 + 1, none⟩ = some u) ∧ (∃ u, W.cell? ⟨w.heap.size, m * 3 + 2, none⟩ = some u) ∧ ∀ i, W.frozen? ⟨w.heap.size, i, none⟩ = false from
        ⟨⟨_, (R.below hW).cell clG_len m 0 hlt (by omega) _ rfl⟩, ⟨_, (R.below hW).cell clG_len m 1 hlt (by omega) _ rfl⟩, ⟨_, (R.below hW).cell clG_len m 2 hlt (by omega) _ rfl⟩, by obtain ⟨cs, hk⟩ := (R.below hW).blk; exact hk.frozen⟩)
      have HF2 := hide (show ∀ i, i < m + 1 → (if i = m then zs.getD m zT else F i) = zs.getD i zT from fun i hi => by
        by_cases e : i = m
        · rw [if_pos e, e]
        · rw [if_neg e]; exact hF i (by omega))
      clear R hB hF
      generalize zs.getD m zT = x at *
      obtain ⟨x0, x1, x2⟩ := x
      dsimp only at y0 y1 y2
      go_wp2_with fail
      refine (toTarget_any x0 x1 x2 _).mono ?_
      rintro e w2 ⟨rfl, hb2⟩
      obtain ⟨⟨u0, p0⟩, ⟨u1, p1⟩, ⟨u2, p2⟩, pf⟩ := HCE.out w2 hb2
      have HX := hide (HFIN.out w2 hb2)
      clear HFIN HCE y0 y1 y2 hb2
      go_wp2
      go_roundw
      case rel => exact ⟨m + 1, _, by omega, by go_num, HX.out.1, HF2.out, HX.out.2⟩
      case measure => simp [intOf]; omega
    · have e : Hid (m = n) := by show m = n; omega
      have HX := hide (And.intro R hB)
      clear R hB
      go_wp2
      go_ret
      exact ⟨rfl, HX.out.1.og clG_len (by omega) (Nat.le_refl _) h.2.1 hl zT (fun i hi => hF i (by rw [e.out]; exact hi)), HX.out.2⟩
theorem clTB_len : ∀ x : TB, (clTB x).length = 1 := fun x => rfl
abbrev HTg := HR 189 1 clTB 71 3 clG svT ctT
/-- a row that was copied -/
def cpT (g : Nat) (x : TB) : TB := (x.1, some ⟨g, 0, none⟩, x.1.length)

set_option maxHeartbeats 2000000 in
theorem toTargetSS_any (a : Option Addr) (n cap : Nat) (ts : List TB) (w : World) (h : TsS w a n cap ts) (hn : n ≤ 1048576) (hr : ∀ i, i < n → (ts.getD i zTB).1.length ≤ 1048576) :
    Calls Tryz.prog 55 #[.slice a n cap] w fun e w' => ∃ ts', ts'.map (fun x => x.1) = ts.map (fun x => x.1) ∧ e = .returned (.slice (some ⟨w.heap.size, 0, none⟩) n n) ∧ OTg w' w.heap.size w.heap.size (.slice (some ⟨w.heap.size, 0, none⟩) n n) ts' ∧ Below w.heap.size w w' := by
  obtain ⟨i0, hi, hz0, hz1, hz2⟩ := info_parts infoTB
  have hl := h.1
  go_enter Tryz.func55, Tryz.ntmps55
  go_wp2_with (at_make; refine wpList_make_full _ rfl _ _ 34 rfl w.heap.size 189 i0 (.slice none 0 0) 1 Tryz.underlying34 hi hz0 hz1 .i64 .i64 _ _ n rfl rfl rfl rfl (by rw [hz2]; omega) (by unfold maxLen; omega) (Nat.le_refl _) ?_; intro w1 hown hgr)
  have HR0 := hide (And.intro (show HTg w1 w.heap.size w.heap.size n (fun _ => zTB) from ⟨rowF_made (f := clTB) zTB (.slice none 0 0) rfl rfl hown, fun i hi => og_nil _ _ _ _ _, fun i j _ _ _ k hk => by simp [svT, zTB, Value.ownBlock] at hk⟩) (below_grown hgr))
  clear hown hgr hi hz0 hz1 hz2
  go_loopw [4] (fun i wr => ∃ (m : Nat) (F : Nat → TB), m ≤ n ∧ i = .int .i64 m ∧ HTg wr w.heap.size w.heap.size n F ∧ (∀ i, i < m → (F i).1 = (ts.getD i zTB).1) ∧ Below w.heap.size w wr) (fun i _ => n - (intOf i).toNat)
  case atStart => exact ⟨0, _, Nat.zero_le _, rfl, HR0.out.1, fun i hi => absurd hi (by omega), HR0.out.2⟩
  case round =>
    obtain ⟨m, F, hm, rfl, R, hF, hB⟩ := hrel
    clear HR0
    by_cases hlt : m < n
    · have hlt' : (m : Int) < (n : Int) := by omega
      obtain ⟨b, off, rfl, y0⟩ := (h.below hB).at m hlt
      have hrow := (h.below hB).2.2.2.1 m hlt
      have HTS := hide (toTargetS_any _ _ _ _ wr hrow (hr m hlt))
      have HFIN := hide (fun (W : World) (hW : Below wr.heap.size wr W) (O : OG 71 3 clG W wr.heap.size (.slice (some ⟨wr.heap.size, 0, none⟩) (ts.getD m zTB).1.length (ts.getD m zTB).1.length) (ts.getD m zTB).1) => show HTg (W.setCell ⟨w.heap.size, m, none⟩ (.slice (some ⟨wr.heap.size, 0, none⟩) (ts.getD m zTB).1.length (ts.getD m zTB).1.length)) w.heap.size w.heap.size n (fun i => if i = m then cpT wr.heap.size (ts.getD m zTB) else F i) ∧ Below w.heap.size w (W.setCell ⟨w.heap.size, m, none⟩ (.slice (some ⟨wr.heap.size, 0, none⟩) (ts.getD m zTB).1.length (ts.getD m zTB).1.length)) from
        ⟨(R.below hW).put (by decide) hlt ((R.below hW).head.set1 m hlt _ _ rfl) (turn_set _ _ _ _) (O.mono hB.size) (fun i hi _ k hk e => by
          have h1 := ((R.rows i hi).lt k hk).2
          simp [svT, cpT, Value.ownBlock] at e
          omega), (hB.trans (hW.mono hB.size)).setCell (p := ⟨w.heap.size, m, none⟩) (Nat.le_refl _) _⟩)
      have HCE := hide (fun (W : World) (hW : Below wr.heap.size wr W) => show (∃ u, W.cell? ⟨w.heap.size, m, none⟩ = some u) ∧ ∀ i, W.frozen? ⟨w.heap.size, i, none⟩ = false from
        ⟨⟨_, by have := (R.below hW).head.cell clTB_len m 0 hlt (by omega) _ rfl; simpa using this⟩, by obtain ⟨cs, hk⟩ := (R.below hW).head.blk; exact hk.frozen⟩)
      have HF2 := hide (show ∀ i, i < m + 1 → (if i = m then cpT wr.heap.size (ts.getD m zTB) else F i).1 = (ts.getD i zTB).1 from fun i hi => by
        by_cases e : i = m
        · rw [if_pos e, e]; rfl
        · rw [if_neg e]; exact hF i (by omega))
      clear R hB hF hrow
      unfold svT at y0
      generalize ts.getD m zTB = x at *
      obtain ⟨x0, x1, x2⟩ := x
      dsimp only at y0 HTS HFIN
      go_wp2_with fail
      refine HTS.out.mono ?_
      rintro e w2 ⟨rfl, O2, hb2⟩
      obtain ⟨⟨u0, p0⟩, pf⟩ := HCE.out w2 hb2
      have HX := hide (HFIN.out w2 hb2 O2)
      clear HFIN HCE y0 hb2 O2 HTS
      go_wp2
      go_roundw
      case rel => exact ⟨m + 1, _, by omega, by go_num, HX.out.1, HF2.out, HX.out.2⟩
      case measure => simp [intOf]; omega
    · have e : Hid (m = n) := by show m = n; omega
      have HX := hide (And.intro R hB)
      clear R hB
      go_wp2
      go_ret
      refine ⟨(List.range n).map F, ?_, rfl, HX.out.1.or clTB_len (by omega) (Nat.le_refl _) h.2.1 zTB (by simp) (fun i hi => by simp [List.getD_eq_getElem?_getD, hi]), HX.out.2⟩
      apply List.ext_getElem
      · simp [hl]
      · intro i h1 h2
        simp at h1 h2
        have := hF i (by rw [e.out]; exact h1)
        simpa [List.getD_eq_getElem?_getD, h2] using this
end Go.Proofs.YtngdgogjlpjjpaeGreat

namespace Go.Proofs.YtngdgogjlpjjpaeGreat
open Go.RowKit Classical
set_option linter.unusedVariables false
set_option linter.unusedSimpArgs false
set_option maxRecDepth 100000

set_option maxHeartbeats 2000000 in
theorem toPlace_any (t d z : Int) (a : Option Addr) (n cap : Nat) (zs : List Int) (w : World) (h : IS w a n cap zs) (hn : n ≤ 1048576) :
    Calls Tryz.prog 140 #[.agg #[.int .i64 t, .slice a n cap, .int .i64 d, .int .i64 z]] w fun e w' => ∃ g, w.heap.size ≤ g ∧ e = .returned (.agg #[.int .i64 t, .slice (some ⟨g, 0, none⟩) n n, .int .i64 d, .int .i64 z]) ∧ RowI w' g zs ∧ Below w.heap.size w w' := by
  have hB0 : Below w.heap.size w (((w.alloc (.cells #[.int .i64 t, .slice a n cap, .int .i64 d, .int .i64 z] 177)).alloc (.cells #[.int .i64 0, .slice none 0 0, .int .i64 0, .int .i64 0] 138)).alloc (.cells #[.int .i64 t, .slice none 0 0, .int .i64 0, .int .i64 0] 138)) := (((Below.refl _ _).alloc (Nat.le_refl _) _).alloc (by simp) _).alloc (by simp; omega) _
  have ka := ((Blk.new w #[.int .i64 t, .slice a n cap, .int .i64 d, .int .i64 z] 177).alloc (.cells #[.int .i64 0, .slice none 0 0, .int .i64 0, .int .i64 0] 138)).alloc (.cells #[.int .i64 t, .slice none 0 0, .int .i64 0, .int .i64 0] 138)
  have kr := (Blk.new (w.alloc (.cells #[.int .i64 t, .slice a n cap, .int .i64 d, .int .i64 z] 177)) #[.int .i64 0, .slice none 0 0, .int .i64 0, .int .i64 0] 138).alloc (.cells #[.int .i64 t, .slice none 0 0, .int .i64 0, .int .i64 0] 138)
  have ko := Blk.new ((w.alloc (.cells #[.int .i64 t, .slice a n cap, .int .i64 d, .int .i64 z] 177)).alloc (.cells #[.int .i64 0, .slice none 0 0, .int .i64 0, .int .i64 0] 138)) #[.int .i64 t, .slice none 0 0, .int .i64 0, .int .i64 0] 138
  simp only [World.size_alloc] at kr ko
  go_enter Tryz.func140, Tryz.ntmps140
  go_wp2_with fail
  refine (toIntS_any a n cap zs _ (h.below hB0) hn).mono ?_
  rintro e w1 ⟨rfl, r1, hb1⟩
  have ka1 := ka.below hb1
  have kr1 := kr.below hb1
  have ko1 := ko.below hb1
  have hB1 := hB0.trans (hb1.mono (by simp; omega))
  simp only [World.size_alloc] at r1
  have T : Turn (fun j => j = w.heap.size + 1 ∨ j = w.heap.size + 1 + 1) w1 (((((((w1.setCell ⟨w.heap.size + 1 + 1, 1, none⟩ (.slice (some ⟨w.heap.size + 1 + 1 + 1, 0, none⟩) n n)).setCell ⟨w.heap.size + 1 + 1, 2, none⟩ (.int .i64 d)).setCell ⟨w.heap.size + 1 + 1, 3, none⟩ (.int .i64 z)).setCell ⟨w.heap.size + 1, 0, none⟩ (.int .i64 t)).setCell ⟨w.heap.size + 1, 1, none⟩ (.slice (some ⟨w.heap.size + 1 + 1 + 1, 0, none⟩) n n)).setCell ⟨w.heap.size + 1, 2, none⟩ (.int .i64 d)).setCell ⟨w.heap.size + 1, 3, none⟩ (.int .i64 z)) :=
    (((((((turn_set _ _ _ _).mono (fun j e => .inr e)).trans ((turn_set _ _ _ _).mono (fun j e => .inr e))).trans ((turn_set _ _ _ _).mono (fun j e => .inr e))).trans ((turn_set _ _ _ _).mono (fun j e => .inl e))).trans ((turn_set _ _ _ _).mono (fun j e => .inl e))).trans ((turn_set _ _ _ _).mono (fun j e => .inl e))).trans ((turn_set _ _ _ _).mono (fun j e => .inl e))
  have HX := hide (And.intro (show RowI _ (w.heap.size + 1 + 1 + 1) zs from turn_blk T (show Blk w1 (w.heap.size + 1 + 1 + 1) _ _ from r1) (by omega)) (below_turn hB1 T (fun k hk => by omega) hB1.size))
  have s0 : w1.cell? ⟨w.heap.size, 2, none⟩ = some (.int .i64 d) := ka1.cell 2
  have s1 : w1.cell? ⟨w.heap.size, 3, none⟩ = some (.int .i64 z) := ka1.cell 3
  have p0 : w1.cell? ⟨w.heap.size + 1, 0, none⟩ = some (.int .i64 0) := kr1.cell 0
  have p1 : w1.cell? ⟨w.heap.size + 1, 1, none⟩ = some (.slice none 0 0) := kr1.cell 1
  have p2 : w1.cell? ⟨w.heap.size + 1, 2, none⟩ = some (.int .i64 0) := kr1.cell 2
  have p3 : w1.cell? ⟨w.heap.size + 1, 3, none⟩ = some (.int .i64 0) := kr1.cell 3
  have q0 : w1.cell? ⟨w.heap.size + 1 + 1, 0, none⟩ = some (.int .i64 t) := ko1.cell 0
  have q1 : w1.cell? ⟨w.heap.size + 1 + 1, 1, none⟩ = some (.slice none 0 0) := ko1.cell 1
  have q2 : w1.cell? ⟨w.heap.size + 1 + 1, 2, none⟩ = some (.int .i64 0) := ko1.cell 2
  have q3 : w1.cell? ⟨w.heap.size + 1 + 1, 3, none⟩ = some (.int .i64 0) := ko1.cell 3
  have fp := kr1.frozen
  have fq := ko1.frozen
  clear T ka kr ko hB0 hB1 hb1 r1 ka1 kr1 ko1
  go_wp2
  exact bodyPost_ret (v := .agg #[.int .i64 t, .slice (some ⟨w.heap.size + 1 + 1 + 1, 0, none⟩) n n, .int .i64 d, .int .i64 z]) (by simp [results, Tryz.results140, go_sem, p0, p1, p2, p3]) rfl ⟨_, by omega, rfl, HX.out.1, HX.out.2⟩
theorem rowi_og {w : World} {g base : Nat} {zs : List Int} (h : RowI w g zs) (hg : base ≤ g) (hn : zs.length ≤ maxLen) : OG 3 1 clI w base (.slice (some ⟨g, 0, none⟩) zs.length zs.length) zs := by
  unfold OG
  rw [flat_clI]
  exact ⟨by simp, .inr ⟨g, zs.length, _, rfl, hg, h, Nat.le_refl _, hn, by simp, by simp only [List.toList_toArray, Nat.mul_one]; exact List.take_of_length_le (by simp)⟩⟩
theorem clP_len : ∀ x : PB, (clP x).length = 4 := fun x => rfl
abbrev HPl := HR 138 4 clP 3 1 clI svP ctP
/-- a place that was copied -/
def cpP (g : Nat) (x : PB) : PB := (x.1, some ⟨g, 0, none⟩, x.1.banks.length)

set_option maxHeartbeats 2000000 in
theorem toPlaceS_any (a : Option Addr) (n cap : Nat) (xs : List PB) (w : World) (h : PlS w a n cap xs) (hn : n ≤ 1048576) (hr : ∀ i, i < n → (xs.getD i zPB).1.banks.length ≤ 1048576) :
    Calls Tryz.prog 53 #[.slice a n cap] w fun e w' => ∃ xs', xs'.map (fun x => x.1) = xs.map (fun x => x.1) ∧ e = .returned (.slice (some ⟨w.heap.size, 0, none⟩) n n) ∧ OPl w' w.heap.size w.heap.size (.slice (some ⟨w.heap.size, 0, none⟩) n n) xs' ∧ Below w.heap.size w w' := by
  obtain ⟨i0, hi, hz0, hz1, hz2⟩ := info_parts infoP
  have hl := h.1
  go_enter Tryz.func53, Tryz.ntmps53
  go_wp2_with (at_make; refine wpList_make_full _ rfl _ _ 33 rfl w.heap.size 138 i0 (.agg #[.int .i64 0, .slice none 0 0, .int .i64 0, .int .i64 0]) 4 Tryz.underlying33 hi hz0 hz1 .i64 .i64 _ _ n rfl rfl rfl rfl (by rw [hz2]; omega) (by unfold maxLen; omega) (Nat.le_refl _) ?_; intro w1 hown hgr)
  have HR0 := hide (And.intro (show HPl w1 w.heap.size w.heap.size n (fun _ => zPB) from ⟨rowF_made (f := clP) zPB (.agg #[.int .i64 0, .slice none 0 0, .int .i64 0, .int .i64 0]) rfl rfl hown, fun i hi => og_nil _ _ _ _ _, fun i j _ _ _ k hk => by simp [svP, zPB, Value.ownBlock] at hk⟩) (below_grown hgr))
  clear hown hgr hi hz0 hz1 hz2
  go_loopw [4] (fun i wr => ∃ (m : Nat) (F : Nat → PB), m ≤ n ∧ i = .int .i64 m ∧ HPl wr w.heap.size w.heap.size n F ∧ (∀ i, i < m → (F i).1 = (xs.getD i zPB).1) ∧ Below w.heap.size w wr) (fun i _ => n - (intOf i).toNat)
  case atStart => exact ⟨0, _, Nat.zero_le _, rfl, HR0.out.1, fun i hi => absurd hi (by omega), HR0.out.2⟩
  case round =>
    obtain ⟨m, F, hm, rfl, R, hF, hB⟩ := hrel
    clear HR0
    by_cases hlt : m < n
    · have hlt' : (m : Int) < (n : Int) := by omega
      obtain ⟨b, off, rfl, y0, y1, y2, y3⟩ := (h.below hB).at m hlt
      have hrow := (h.below hB).2.2.2.1 m hlt
      have hmx := hrow.2.1
      have HTS := hide (fun t d z => toPlace_any t d z _ _ _ _ wr hrow (hr m hlt))
      have HFIN := hide (fun (W : World) (g : Nat) (hW : Below wr.heap.size wr W) (hg : wr.heap.size ≤ g) (O : RowI W g (xs.getD m zPB).1.banks) => show HPl ((((W.setCell ⟨w.heap.size, m * 4, none⟩ (.int .i64 (xs.getD m zPB).1.text)).setCell ⟨w.heap.size, m * 4 + 1, none⟩ (.slice (some ⟨g, 0, none⟩) (xs.getD m zPB).1.banks.length (xs.getD m zPB).1.banks.length)).setCell ⟨w.heap.size, m * 4 + 2, none⟩ (.int .i64 (xs.getD m zPB).1.data)).setCell ⟨w.heap.size, m * 4 + 3, none⟩ (.int .i64 (xs.getD m zPB).1.size)) w.heap.size w.heap.size n (fun i => if i = m then cpP g (xs.getD m zPB) else F i) ∧ Below w.heap.size w ((((W.setCell ⟨w.heap.size, m * 4, none⟩ (.int .i64 (xs.getD m zPB).1.text)).setCell ⟨w.heap.size, m * 4 + 1, none⟩ (.slice (some ⟨g, 0, none⟩) (xs.getD m zPB).1.banks.length (xs.getD m zPB).1.banks.length)).setCell ⟨w.heap.size, m * 4 + 2, none⟩ (.int .i64 (xs.getD m zPB).1.data)).setCell ⟨w.heap.size, m * 4 + 3, none⟩ (.int .i64 (xs.getD m zPB).1.size)) from
        ⟨(R.below hW).put (by decide) hlt ((R.below hW).head.set4 m hlt _ _ _ _ _ rfl) ((((turn_set _ _ _ _).trans (turn_set _ _ _ _)).trans (turn_set _ _ _ _)).trans (turn_set _ _ _ _)) (rowi_og O (Nat.le_trans hB.size hg) hmx) (fun i hi _ k hk e => by
          have h1 := ((R.rows i hi).lt k hk).2
          simp [svP, cpP, Value.ownBlock] at e
          omega), ((((hB.trans (hW.mono hB.size)).setCell (p := ⟨w.heap.size, m * 4, none⟩) (Nat.le_refl _) _).setCell (p := ⟨w.heap.size, m * 4 + 1, none⟩) (Nat.le_refl _) _).setCell (p := ⟨w.heap.size, m * 4 + 2, none⟩) (Nat.le_refl _) _).setCell (p := ⟨w.heap.size, m * 4 + 3, none⟩) (Nat.le_refl _) _⟩)
      have HCE := hide (fun (W : World) (hW : Below wr.heap.size wr W) => show (∃ u, W.cell? ⟨w.heap.size, m * 4, none⟩ = some u) ∧ (∃ u, W.cell? ⟨w.heap.size, m * 4 + 1, none⟩ = some u) ∧ (∃ u, W.cell? ⟨w.heap.size, m * 4 + 2, none⟩ = some u) ∧ (∃ u, W.cell? ⟨w.heap.size, m * 4 + 3, none⟩ = some u) ∧ ∀ i, W.frozen? ⟨w.heap.size, i, none⟩ = false from
        ⟨⟨_, (R.below hW).head.cell clP_len m 0 hlt (by omega) _ rfl⟩, ⟨_, (R.below hW).head.cell clP_len m 1 hlt (by omega) _ rfl⟩, ⟨_, (R.below hW).head.cell clP_len m 2 hlt (by omega) _ rfl⟩, ⟨_, (R.below hW).head.cell clP_len m 3 hlt (by omega) _ rfl⟩, by obtain ⟨cs, hk⟩ := (R.below hW).head.blk; exact hk.frozen⟩)
      have HF2 := hide (show ∀ g i, i < m + 1 → (if i = m then cpP g (xs.getD m zPB) else F i).1 = (xs.getD i zPB).1 from fun g i hi => by
        by_cases e : i = m
        · rw [if_pos e, e]; rfl
        · rw [if_neg e]; exact hF i (by omega))
      clear R hB hF hrow hmx
      unfold svP at y1
      generalize xs.getD m zPB = x at *
      obtain ⟨⟨xt, xb, xd, xz⟩, xa, xc⟩ := x
      dsimp only at y0 y1 y2 y3 HTS HFIN
      go_wp2_with fail
      refine (HTS.out xt xd xz).mono ?_
      rintro e w2 ⟨g, hg, rfl, O2, hb2⟩
      obtain ⟨⟨u0, p0⟩, ⟨u1, p1⟩, ⟨u2, p2⟩, ⟨u3, p3⟩, pf⟩ := HCE.out w2 hb2
      have HX := hide (HFIN.out w2 g hb2 hg O2)
      clear HFIN HCE y0 y1 y2 y3 hb2 O2 HTS
      go_wp2
      go_roundw
      case rel => exact ⟨m + 1, _, by omega, by go_num, HX.out.1, HF2.out g, HX.out.2⟩
      case measure => simp [intOf]; omega
    · have e : Hid (m = n) := by show m = n; omega
      have HX := hide (And.intro R hB)
      clear R hB
      go_wp2
      go_ret
      refine ⟨(List.range n).map F, ?_, rfl, HX.out.1.or clP_len (by omega) (Nat.le_refl _) h.2.1 zPB (by simp) (fun i hi => by simp [List.getD_eq_getElem?_getD, hi]), HX.out.2⟩
      apply List.ext_getElem
      · simp [hl]
      · intro i h1 h2
        simp at h1 h2
        have := hF i (by rw [e.out]; exact h1)
        simpa [List.getD_eq_getElem?_getD, h2] using this
end Go.Proofs.YtngdgogjlpjjpaeGreat
