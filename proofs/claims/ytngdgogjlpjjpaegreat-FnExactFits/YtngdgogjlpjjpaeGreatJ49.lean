import Derived.Test.YtngdgogjlpjjpaeGreatJ48
import Derived.Test.YtngdgogjlpjjpaeGreatJ44
import Derived.Test.YtngdgogjlpjjpaeGreatJ38
namespace Go.Proofs.YtngdgogjlpjjpaeGreat
open Go.RowKit
set_option linter.unusedVariables false
set_option linter.unusedSimpArgs false
set_option maxRecDepth 100000

set_option maxHeartbeats 2000000 in
theorem toPlace_any (t d z : Int) (a : Option Addr) (n cap : Nat) (zs : List Int) (w : World) (h : IS w a n cap zs) (hn : n ≤ 1048576) :
    Calls Tryz.prog 140 #[.agg #[.int .i64 t, .slice a n cap, .int .i64 d, .int .i64 z]] w fun e w' => ∃ g, w.heap.size ≤ g ∧ e = .returned (.agg #[.int .i64 t, .slice (some ⟨g, 0, none⟩) n n, .int .i64 d, .int .i64 z]) ∧ RowI w' g zs ∧ Below w.heap.size w w' := by
  have hB0 : Below w.heap.size w (((w.alloc (.cells #[.int .i64 t, .slice a n cap, .int .i64 d, .int .i64 z] 177)).alloc (.cells #[.int .i64 0, .slice none 0 0, .int .i64 0, .int .i64 0] 138)).alloc (.cells #[.int .i64 t, .slice none 0 0, .int .i64 0, .int .i64 0] 138)) := (((Below.refl _ _).alloc (Nat.le_refl _) _).alloc (by simp) _).alloc (by simp; omega) _
  have ka := ((Blk.new w #[.int .i64 t, .slice a n cap, .int .i64 d, .int .i64 z] 177).alloc (.cells #[.int .i64 0, .slice none 0 0, .int .i64 0, .int .i64 0] 138)).alloc (.cells #[.int .i64 t, .slice none 0 0, .int .i64 0, .int .i64 0] 138)
  have kr := (Blk.new (w.alloc (.cells #[.int .i64 t, .slice a n cap, .int .i64 d, .int .i64 z] 177)) #[.int .i64 0, .slice none 0 0, .int .i64 0, .int .i64 0] 138).alloc (.cells #[.int .i64 t, .slice none 0 0, .int .i64 0, .int .i64 0] 138)
  have ko := Blk.new ((w.alloc (.cells #[.int .i64 t, .slice a n cap, .int .i64 d, .int .i64 z] 177)).alloc (.cells #[.int .i64 0, .slice none 0 0, .int .i64 0, .int .i64 0] 138)) #[.int .i64 t, .slice none 0 0, .int .i64 0, .int .i64 0] 138
  simp only [World.size_alloc] at kr ko
  go_enter Tryz.func140, Tryz.ntmps140
  go_wp2_with fail
  refine (toIntS_any a n cap zs _ (h.below hB0) hn).mono ?_
  rintro e w1 ⟨rfl, r1, hb1⟩
  have ka1 := ka.below hb1
  have kr1 := kr.below hb1
  have ko1 := ko.below hb1
  have hB1 := hB0.trans (hb1.mono (by simp; omega))
  simp only [World.size_alloc] at r1
  have T : Turn (fun j => j = w.heap.size + 1 ∨ j = w.heap.size + 1 + 1) w1 (((((((w1.setCell ⟨w.heap.size + 1 + 1, 1, none⟩ (.slice (some ⟨w.heap.size + 1 + 1 + 1, 0, none⟩) n n)).setCell ⟨w.heap.size + 1 + 1, 2, none⟩ (.int .i64 d)).setCell ⟨w.heap.size + 1 + 1, 3, none⟩ (.int .i64 z)).setCell ⟨w.heap.size + 1, 0, none⟩ (.int .i64 t)).setCell ⟨w.heap.size + 1, 1, none⟩ (.slice (some ⟨w.heap.size + 1 + 1 + 1, 0, none⟩) n n)).setCell ⟨w.heap.size + 1, 2, none⟩ (.int .i64 d)).setCell ⟨w.heap.size + 1, 3, none⟩ (.int .i64 z)) :=
    (((((((turn_set _ _ _ _).mono (fun j e => .inr e)).trans ((turn_set _ _ _ _).mono (fun j e => .inr e))).trans ((turn_set _ _ _ _).mono (fun j e => .inr e))).trans ((turn_set _ _ _ _).mono (fun j e => .inl e))).trans ((turn_set _ _ _ _).mono (fun j e => .inl e))).trans ((turn_set _ _ _ _).mono (fun j e => .inl e))).trans ((turn_set _ _ _ _).mono (fun j e => .inl e))
  have HX := hide (And.intro (show RowI _ (w.heap.size + 1 + 1 + 1) zs from turn_blk T (show Blk w1 (w.heap.size + 1 + 1 + 1) _ _ from r1) (by omega)) (below_turn hB1 T (fun k hk => by omega) hB1.size))
  have s0 : w1.cell? ⟨w.heap.size, 2, none⟩ = some (.int .i64 d) := ka1.cell 2
  have s1 : w1.cell? ⟨w.heap.size, 3, none⟩ = some (.int .i64 z) := ka1.cell 3
  have p0 : w1.cell? ⟨w.heap.size + 1, 0, none⟩ = some (.int .i64 0) := kr1.cell 0
  have p1 : w1.cell? ⟨w.heap.size + 1, 1, none⟩ = some (.slice none 0 0) := kr1.cell 1
  have p2 : w1.cell? ⟨w.heap.size + 1, 2, none⟩ = some (.int .i64 0) := kr1.cell 2
  have p3 : w1.cell? ⟨w.heap.size + 1, 3, none⟩ = some (.int .i64 0) := kr1.cell 3
  have q0 : w1.cell? ⟨w.heap.size + 1 + 1, 0, none⟩ = some (.int .i64 t) := ko1.cell 0
  have q1 : w1.cell? ⟨w.heap.size + 1 + 1, 1, none⟩ = some (.slice none 0 0) := ko1.cell 1
  have q2 : w1.cell? ⟨w.heap.size + 1 + 1, 2, none⟩ = some (.int .i64 0) := ko1.cell 2
  have q3 : w1.cell? ⟨w.heap.size + 1 + 1, 3, none⟩ = some (.int .i64 0) := ko1.cell 3
  have fp := kr1.frozen
  have fq := ko1.frozen
  clear T ka kr ko hB0 hB1 hb1 r1 ka1 kr1 ko1
  go_wp2
  exact bodyPost_ret (v := .agg #[.int .i64 t, .slice (some ⟨w.heap.size + 1 + 1 + 1, 0, none⟩) n n, .int .i64 d, .int .i64 z]) (by simp [results, Tryz.results140, go_sem, p0, p1, p2, p3]) rfl ⟨_, by omega, rfl, HX.out.1, HX.out.2⟩
theorem rowi_og {w : World} {g base : Nat} {zs : List Int} (h : RowI w g zs) (hg : base ≤ g) (hn : zs.length ≤ maxLen) : OG 3 1 clI w base (.slice (some ⟨g, 0, none⟩) zs.length zs.length) zs := by
  unfold OG
  rw [flat_clI]
  exact ⟨by simp, .inr ⟨g, zs.length, _, rfl, hg, h, Nat.le_refl _, hn, by simp, by simp only [List.toList_toArray, Nat.mul_one]; exact List.take_of_length_le (by simp)⟩⟩
theorem clP_len : ∀ x : PB, (clP x).length = 4 := fun x => rfl
abbrev HPl := HR 138 4 clP 3 1 clI svP ctP
/-- a place that was copied -/
def cpP (g : Nat) (x : PB) : PB := (x.1, some ⟨g, 0, none⟩, x.1.banks.length)

set_option maxHeartbeats 2000000 in
theorem toPlaceS_any (a : Option Addr) (n cap : Nat) (xs : List PB) (w : World) (h : PlS w a n cap xs) (hn : n ≤ 1048576) (hr : ∀ i, i < n → (xs.getD i zPB).1.banks.length ≤ 1048576) :
    Calls Tryz.prog 53 #[.slice a n cap] w fun e w' => ∃ xs', xs'.map (fun x => x.1) = xs.map (fun x => x.1) ∧ e = .returned (.slice (some ⟨w.heap.size, 0, none⟩) n n) ∧ OPl w' w.heap.size w.heap.size (.slice (some ⟨w.heap.size, 0, none⟩) n n) xs' ∧ Below w.heap.size w w' := by
  obtain ⟨i0, hi, hz0, hz1, hz2⟩ := info_parts infoP
  have hl := h.1
  go_enter Tryz.func53, Tryz.ntmps53
  go_wp2_with (at_make; refine wpList_make_full _ rfl _ _ 33 rfl w.heap.size 138 i0 (.agg #[.int .i64 0, .slice none 0 0, .int .i64 0, .int .i64 0]) 4 Tryz.underlying33 hi hz0 hz1 .i64 .i64 _ _ n rfl rfl rfl rfl (by rw [hz2]; omega) (by unfold maxLen; omega) (Nat.le_refl _) ?_; intro w1 hown hgr)
  have HR0 := hide (And.intro (show HPl w1 w.heap.size w.heap.size n (fun _ => zPB) from ⟨rowF_made (f := clP) zPB (.agg #[.int .i64 0, .slice none 0 0, .int .i64 0, .int .i64 0]) rfl rfl hown, fun i hi => og_nil _ _ _ _ _, fun i j _ _ _ k hk => by simp [svP, zPB, Value.ownBlock] at hk⟩) (below_grown hgr))
  clear hown hgr hi hz0 hz1 hz2
  go_loopw [4] (fun i wr => ∃ (m : Nat) (F : Nat → PB), m ≤ n ∧ i = .int .i64 m ∧ HPl wr w.heap.size w.heap.size n F ∧ (∀ i, i < m → (F i).1 = (xs.getD i zPB).1) ∧ Below w.heap.size w wr) (fun i _ => n - (intOf i).toNat)
  case atStart => exact ⟨0, _, Nat.zero_le _, rfl, HR0.out.1, fun i hi => absurd hi (by omega), HR0.out.2⟩
  case round =>
    obtain ⟨m, F, hm, rfl, R, hF, hB⟩ := hrel
    clear HR0
    by_cases hlt : m < n
    · have hlt' : (m : Int) < (n : Int) := by omega
      obtain ⟨b, off, rfl, y0, y1, y2, y3⟩ := (h.below hB).at m hlt
      have hrow := (h.below hB).2.2.2.1 m hlt
      have hmx := hrow.2.1
      have HTS := hide (fun t d z => toPlace_any t d z _ _ _ _ wr hrow (hr m hlt))
      have HFIN := hide (fun (W : World) (g : Nat) (hW : Below wr.heap.size wr W) (hg : wr.heap.size ≤ g) (O : RowI W g (xs.getD m zPB).1.banks) => show HPl ((((W.setCell ⟨w.heap.size, m * 4, none⟩ (.int .i64 (xs.getD m zPB).1.text)).setCell ⟨w.heap.size, m * 4 + 1, none⟩ (.slice (some ⟨g, 0, none⟩) (xs.getD m zPB).1.banks.length (xs.getD m zPB).1.banks.length)).setCell ⟨w.heap.size, m * 4 + 2, none⟩ (.int .i64 (xs.getD m zPB).1.data)).setCell ⟨w.heap.size, m * 4 + 3, none⟩ (.int .i64 (xs.getD m zPB).1.size)) w.heap.size w.heap.size n (fun i => if i = m then cpP g (xs.getD m zPB) else F i) ∧ Below w.heap.size w ((((W.setCell ⟨w.heap.size, m * 4, none⟩ (.int .i64 (xs.getD m zPB).1.text)).setCell ⟨w.heap.size, m * 4 + 1, none⟩ (.slice (some ⟨g, 0, none⟩) (xs.getD m zPB).1.banks.length (xs.getD m zPB).1.banks.length)).setCell ⟨w.heap.size, m * 4 + 2, none⟩ (.int .i64 (xs.getD m zPB).1.data)).setCell ⟨w.heap.size, m * 4 + 3, none⟩ (.int .i64 (xs.getD m zPB).1.size)) from
        ⟨(R.below hW).put (by decide) hlt ((R.below hW).head.set4 m hlt _ _ _ _ _ rfl) ((((turn_set _ _ _ _).trans (turn_set _ _ _ _)).trans (turn_set _ _ _ _)).trans (turn_set _ _ _ _)) (rowi_og O (Nat.le_trans hB.size hg) hmx) (fun i hi _ k hk e => by
          have h1 := ((R.rows i hi).lt k hk).2
          simp [svP, cpP, Value.ownBlock] at e
          omega), ((((hB.trans (hW.mono hB.size)).setCell (p := ⟨w.heap.size, m * 4, none⟩) (Nat.le_refl _) _).setCell (p := ⟨w.heap.size, m * 4 + 1, none⟩) (Nat.le_refl _) _).setCell (p := ⟨w.heap.size, m * 4 + 2, none⟩) (Nat.le_refl _) _).setCell (p := ⟨w.heap.size, m * 4 + 3, none⟩) (Nat.le_refl _) _⟩)
      have HCE := hide (fun (W : World) (hW : Below wr.heap.size wr W) => show (∃ u, W.cell? ⟨w.heap.size, m * 4, none⟩ = some u) ∧ (∃ u, W.cell? ⟨w.heap.size, m * 4 + 1, none⟩ = some u) ∧ (∃ u, W.cell? ⟨w.heap.size, m * 4 + 2, none⟩ = some u) ∧ (∃ u, W.cell? ⟨w.heap.size, m * 4 + 3, none⟩ = some u) ∧ ∀ i, W.frozen? ⟨w.heap.size, i, none⟩ = false from
        ⟨⟨_, (R.below hW).head.cell clP_len m 0 hlt (by omega) _ rfl⟩, ⟨_, (R.below hW).head.cell clP_len m 1 hlt (by omega) _ rfl⟩, ⟨_, (R.below hW).head.cell clP_len m 2 hlt (by omega) _ rfl⟩, ⟨_, (R.below hW).head.cell clP_len m 3 hlt (by omega) _ rfl⟩, by obtain ⟨cs, hk⟩ := (R.below hW).head.blk; exact hk.frozen⟩)
      have HF2 := hide (show ∀ g i, i < m + 1 → (if i = m then cpP g (xs.getD m zPB) else F i).1 = (xs.getD i zPB).1 from fun g i hi => by
        by_cases e : i = m
        · rw [if_pos e, e]; rfl
        · rw [if_neg e]; exact hF i (by omega))
      clear R hB hF hrow hmx
      unfold svP at y1
      generalize xs.getD m zPB = x at *
      obtain ⟨⟨xt, xb, xd, xz⟩, xa, xc⟩ := x
      dsimp only at y0 y1 y2 y3 HTS HFIN
      go_wp2_with fail
      refine (HTS.out xt xd xz).mono ?_
      rintro e w2 ⟨g, hg, rfl, O2, hb2⟩
      obtain ⟨⟨u0, p0⟩, ⟨u1, p1⟩, ⟨u2, p2⟩, ⟨u3, p3⟩, pf⟩ := HCE.out w2 hb2
      have HX := hide (HFIN.out w2 g hb2 hg O2)
      clear HFIN HCE y0 y1 y2 y3 hb2 O2 HTS
      go_wp2
      go_roundw
      case rel => exact ⟨m + 1, _, by omega, by go_num, HX.out.1, HF2.out g, HX.out.2⟩
      case measure => simp [intOf]; omega
    · have e : Hid (m = n) := by show m = n; omega
      have HX := hide (And.intro R hB)
      clear R hB
      go_wp2
      go_ret
      refine ⟨(List.range n).map F, ?_, rfl, HX.out.1.or clP_len (by omega) (Nat.le_refl _) h.2.1 zPB (by simp) (fun i hi => by simp [List.getD_eq_getElem?_getD, hi]), HX.out.2⟩
      apply List.ext_getElem
      · simp [hl]
      · intro i h1 h2
        simp at h1 h2
        have := hF i (by rw [e.out]; exact h1)
        simpa [List.getD_eq_getElem?_getD, h2] using this
end Go.Proofs.YtngdgogjlpjjpaeGreat

namespace Go.Proofs.YtngdgogjlpjjpaeGreat
open Go.RowKit
set_option linter.unusedVariables false
set_option linter.unusedSimpArgs false
set_option maxRecDepth 100000

/-- the three boxes of a copier: what it was given, its answer, its variable -/
structure TL (w W : World) (cb : Array Value) (tb : TypeId) (cr co : Array Value) (t : TypeId) : Prop where
  kb : Blk W w.heap.size cb tb
  kr : Blk W (w.heap.size + 1) cr t
  ko : Blk W (w.heap.size + 1 + 1) co t
  hB : Below w.heap.size w W
theorem TL.below {w W W' : World} {cb cr co : Array Value} {tb t : TypeId} (h : TL w W cb tb cr co t) (hb : Below W.heap.size W W') : TL w W' cb tb cr co t := ⟨h.kb.below hb, h.kr.below hb, h.ko.below hb, h.hB.trans (hb.mono h.hB.size)⟩
theorem TL.set {w W : World} {cb cr co : Array Value} {tb t : TypeId} (h : TL w W cb tb cr co t) (i : Nat) (v : Value) : TL w (W.setCell ⟨w.heap.size + 1 + 1, i, none⟩ v) cb tb cr (co.setIfInBounds i v) t :=
  ⟨h.kb.other _ _ (by dsimp only; omega), h.kr.other _ _ (by dsimp only; omega), h.ko.set i v, h.hB.setCell (p := ⟨w.heap.size + 1 + 1, i, none⟩) (by dsimp only; omega) v⟩
theorem TL.setr {w W : World} {cb cr co : Array Value} {tb t : TypeId} (h : TL w W cb tb cr co t) (i : Nat) (v : Value) : TL w (W.setCell ⟨w.heap.size + 1, i, none⟩ v) cb tb (cr.setIfInBounds i v) co t :=
  ⟨h.kb.other _ _ (by dsimp only; omega), h.kr.set i v, h.ko.other _ _ (by dsimp only; omega), h.hB.setCell (p := ⟨w.heap.size + 1, i, none⟩) (by dsimp only; omega) v⟩
theorem Blk.lyt {w : World} {b : Nat} {t : TypeId} {v0 v1 v2 v3 v4 v5 : Value} (h : Blk w b #[v0, v1, v2, v3, v4, v5] t) : w.cell? ⟨b, 0, none⟩ = some v0 ∧ w.cell? ⟨b, 1, none⟩ = some v1 ∧ w.cell? ⟨b, 2, none⟩ = some v2 ∧ w.cell? ⟨b, 3, none⟩ = some v3 ∧ w.cell? ⟨b, 4, none⟩ = some v4 ∧ w.cell? ⟨b, 5, none⟩ = some v5 := ⟨h.cell 0, h.cell 1, h.cell 2, h.cell 3, h.cell 4, h.cell 5⟩
def ToL (w : World) (L : Lay) (e : Ending) (w' : World) : Prop := Below w.heap.size w w' ∧ ∃ a0 c0 xs a2 c2 a5 c5 ts, e = .returned (.agg #[.slice a0 xs.length c0, .int .i64 L.stack, .slice a2 L.slots.length c2, .int .i64 L.flash, .int .i64 L.ram, .slice a5 ts.length c5]) ∧ LayO w' w.heap.size L a0 c0 xs a2 c2 a5 c5 ts

set_option maxHeartbeats 4000000 in
theorem toLayout_any (L : Lay) (a0 : Option Addr) (c0 : Nat) (xs : List PB) (a2 : Option Addr) (c2 : Nat) (a5 : Option Addr) (c5 : Nat) (ts : List TB) (w : World) (h : LyT w L a0 c0 xs a2 c2 a5 c5 ts) (hs : lySz L xs ts ≤ 1048576) :
    Calls Tryz.prog 13 #[.agg #[.slice a0 xs.length c0, .int .i64 L.stack, .slice a2 L.slots.length c2, .int .i64 L.flash, .int .i64 L.ram, .slice a5 ts.length c5]] w (ToL w L) := by
  obtain ⟨l1, l2, l3, l4, l5⟩ : xs.length ≤ 1048576 ∧ L.slots.length ≤ 1048576 ∧ ts.length ≤ 1048576 ∧ (∀ i, i < xs.length → (xs.getD i zPB).1.banks.length ≤ 1048576) ∧ (∀ i, i < ts.length → (ts.getD i zTB).1.length ≤ 1048576) := by
    unfold lySz plSz tsSz at hs
    refine ⟨by omega, by omega, by omega, fun i hi => ?_, fun i hi => ?_⟩
    · have := upS_le (fun j => (xs.getD j zPB).1.banks.length) xs.length i hi; omega
    · have := upS_le (fun j => (ts.getD j zTB).1.length) ts.length i hi; omega
  have M0 : TL w (((w.alloc (.cells #[.slice a0 xs.length c0, .int .i64 L.stack, .slice a2 L.slots.length c2, .int .i64 L.flash, .int .i64 L.ram, .slice a5 ts.length c5] 27)).alloc (.cells #[.slice none 0 0, .int .i64 0, .slice none 0 0, .int .i64 0, .int .i64 0, .slice none 0 0] 36)).alloc (.cells #[.slice none 0 0, .int .i64 0, .slice none 0 0, .int .i64 0, .int .i64 0, .slice none 0 0] 36)) #[.slice a0 xs.length c0, .int .i64 L.stack, .slice a2 L.slots.length c2, .int .i64 L.flash, .int .i64 L.ram, .slice a5 ts.length c5] 27 #[.slice none 0 0, .int .i64 0, .slice none 0 0, .int .i64 0, .int .i64 0, .slice none 0 0] #[.slice none 0 0, .int .i64 0, .slice none 0 0, .int .i64 0, .int .i64 0, .slice none 0 0] 36 :=
    ⟨((Blk.new w _ _).alloc _).alloc _, by have := (Blk.new (w.alloc (.cells #[.slice a0 xs.length c0, .int .i64 L.stack, .slice a2 L.slots.length c2, .int .i64 L.flash, .int .i64 L.ram, .slice a5 ts.length c5] 27)) #[.slice none 0 0, .int .i64 0, .slice none 0 0, .int .i64 0, .int .i64 0, .slice none 0 0] 36).alloc (.cells #[.slice none 0 0, .int .i64 0, .slice none 0 0, .int .i64 0, .int .i64 0, .slice none 0 0] 36); simpa using this,
     by have := Blk.new ((w.alloc (.cells #[.slice a0 xs.length c0, .int .i64 L.stack, .slice a2 L.slots.length c2, .int .i64 L.flash, .int .i64 L.ram, .slice a5 ts.length c5] 27)).alloc (.cells #[.slice none 0 0, .int .i64 0, .slice none 0 0, .int .i64 0, .int .i64 0, .slice none 0 0] 36)) #[.slice none 0 0, .int .i64 0, .slice none 0 0, .int .i64 0, .int .i64 0, .slice none 0 0] 36; simpa using this,
     (((Below.refl _ _).alloc (Nat.le_refl _) _).alloc (by simp) _).alloc (by simp; omega) _⟩
  go_enter Tryz.func13, Tryz.ntmps13
  go_wp2_with fail
  refine (toPlaceS_any a0 xs.length c0 xs _ (h.p.below M0.hB) l1 l4).mono ?_
  rintro e w1 ⟨ys, hys, rfl, O1, hb1⟩
  have M1 := M0.below hb1
  simp only [World.size_alloc] at O1
  have hly : ys.length = xs.length := by have := congrArg List.length hys; simpa using this
  have z1 : w.heap.size + 1 + 1 + 1 ≤ w1.heap.size := by have := hb1.size; simpa using this
  clear M0 hb1
  obtain ⟨q0, q1, q2, q3, q4, q5⟩ := M1.kb.lyt
  obtain ⟨o0, o1, o2, o3, o4, o5⟩ := M1.ko.lyt
  have of := M1.ko.frozen
  have M1a := (M1.set 0 (.slice (some ⟨w.heap.size + 1 + 1 + 1, 0, none⟩) xs.length xs.length)).set 1 (.int .i64 L.stack)
  have T1 : Turn (fun j => j = w.heap.size + 1 + 1) w1 ((w1.setCell ⟨w.heap.size + 1 + 1, 0, none⟩ (.slice (some ⟨w.heap.size + 1 + 1 + 1, 0, none⟩) xs.length xs.length)).setCell ⟨w.heap.size + 1 + 1, 1, none⟩ (.int .i64 L.stack)) := (turn_set _ _ _ _).trans (turn_set _ _ _ _)
  simp only [List.setIfInBounds_toArray, List.set_cons_zero, List.set_cons_succ] at M1a
  obtain ⟨r0, r1, r2, r3, r4, r5⟩ := M1a.kb.lyt
  clear M1
  go_wp2_with fail
  refine (toIntS_any a2 L.slots.length c2 L.slots _ (h.s.below M1a.hB) l2).mono ?_
  rintro e w2 ⟨rfl, R2, hb2⟩
  have M2 := M1a.below hb2
  simp only [size_setCell] at R2
  have O2 : OPl w2 (w.heap.size + 1 + 1 + 1) (w.heap.size + 1 + 1 + 1) (.slice (some ⟨w.heap.size + 1 + 1 + 1, 0, none⟩) xs.length xs.length) ys := (OR.kept O1 T1 (fun k hk e => by have := (OR.lt O1).1 k hk; omega) (fun x hx k hk e => by have := (OR.lt O1).2 x hx k hk; omega)).below hb2
  have HPL := hide (show (∀ k, (Value.slice (some ⟨w1.heap.size, 0, none⟩) L.slots.length L.slots.length).ownBlock = some k → ∀ x ∈ ys, (svP x).ownBlock ≠ some k) from fun k hk x hx e => by
    have := ((OR.lt O1).2 x hx k e).2
    simp [Value.ownBlock] at hk
    omega)
  have z2 : w1.heap.size < w2.heap.size := R2.lt
  clear M1a hb2 T1 O1 q0 q1 q2 q3 q4 q5 o0 o1 o2 o3 o4 o5 r0 r1 r2 r3 r4 r5 of
  obtain ⟨q0, q1, q2, q3, q4, q5⟩ := M2.kb.lyt
  obtain ⟨o0, o1, o2, o3, o4, o5⟩ := M2.ko.lyt
  have of := M2.ko.frozen
  have M2a := ((M2.set 2 (.slice (some ⟨w1.heap.size, 0, none⟩) L.slots.length L.slots.length)).set 3 (.int .i64 L.flash)).set 4 (.int .i64 L.ram)
  have T2 : Turn (fun j => j = w.heap.size + 1 + 1) w2 (((w2.setCell ⟨w.heap.size + 1 + 1, 2, none⟩ (.slice (some ⟨w1.heap.size, 0, none⟩) L.slots.length L.slots.length)).setCell ⟨w.heap.size + 1 + 1, 3, none⟩ (.int .i64 L.flash)).setCell ⟨w.heap.size + 1 + 1, 4, none⟩ (.int .i64 L.ram)) := ((turn_set _ _ _ _).trans (turn_set _ _ _ _)).trans (turn_set _ _ _ _)
  simp only [List.setIfInBounds_toArray, List.set_cons_zero, List.set_cons_succ] at M2a
  obtain ⟨r0, r1, r2, r3, r4, r5⟩ := M2a.kb.lyt
  clear M2
  go_wp2_with fail
  refine (toTargetSS_any a5 ts.length c5 ts _ (h.t.below M2a.hB) l3 l5).mono ?_
  rintro e w3 ⟨us, hus, rfl, O3, hb3⟩
  have M3 := M2a.below hb3
  simp only [size_setCell] at O3
  have hlu : us.length = ts.length := by have := congrArg List.length hus; simpa using this
  have T23 := T2.trans (turn_below (S := fun j => j = w.heap.size + 1 + 1) hb3)
  have OP3 : OPl w3 (w.heap.size + 1 + 1 + 1) (w.heap.size + 1 + 1 + 1) (.slice (some ⟨w.heap.size + 1 + 1 + 1, 0, none⟩) xs.length xs.length) ys := OR.kept O2 T23 (fun k hk e => by have := (OR.lt O2).1 k hk; omega) (fun x hx k hk e => by have := (OR.lt O2).2 x hx k hk; omega)
  have R3 : RowI w3 w1.heap.size L.slots := turn_blk T23 (show Blk w2 w1.heap.size _ _ from R2) (by omega)
  have LO : LayO w3 (w.heap.size + 1 + 1 + 1) L (some ⟨w.heap.size + 1 + 1 + 1, 0, none⟩) xs.length ys (some ⟨w1.heap.size, 0, none⟩) L.slots.length (some ⟨w2.heap.size, 0, none⟩) ts.length us :=
    ⟨by rw [hly]; exact OP3, hys.trans h.ps, rowi_og R3 z1 h.s.2.1, by rw [hlu]; exact OR.mono O3 (by omega) (by omega), hus.trans h.tt, HPL.out⟩
  clear M2a hb3 T2 T23 O2 O3 OP3 R2 R3 HPL q0 q1 q2 q3 q4 q5 o0 o1 o2 o3 o4 o5 r0 r1 r2 r3 r4 r5 of
  obtain ⟨o0, o1, o2, o3, o4, o5⟩ := M3.ko.lyt
  obtain ⟨p0, p1, p2, p3, p4, p5⟩ := M3.kr.lyt
  have of := M3.ko.frozen
  have pf := M3.kr.frozen
  have HFIN := hide (fun W' (T : Turn (fun j => j = w.heap.size + 1 ∨ j = w.heap.size + 1 + 1) w3 W') => And.intro (below_turn M3.hB T (fun k hk => by omega) M3.hB.size) ((LO.kept T (fun j hj _ e => by omega)).mono (show w.heap.size ≤ w.heap.size + 1 + 1 + 1 by omega)))
  have HT := hide (show Turn (fun j => j = w.heap.size + 1 ∨ j = w.heap.size + 1 + 1) w3 (((((((w3.setCell ⟨w.heap.size + 1 + 1, 5, none⟩ (.slice (some ⟨w2.heap.size, 0, none⟩) ts.length ts.length)).setCell ⟨w.heap.size + 1, 0, none⟩ (.slice (some ⟨w.heap.size + 1 + 1 + 1, 0, none⟩) xs.length xs.length)).setCell ⟨w.heap.size + 1, 1, none⟩ (.int .i64 L.stack)).setCell ⟨w.heap.size + 1, 2, none⟩ (.slice (some ⟨w1.heap.size, 0, none⟩) L.slots.length L.slots.length)).setCell ⟨w.heap.size + 1, 3, none⟩ (.int .i64 L.flash)).setCell ⟨w.heap.size + 1, 4, none⟩ (.int .i64 L.ram)).setCell ⟨w.heap.size + 1, 5, none⟩ (.slice (some ⟨w2.heap.size, 0, none⟩) ts.length ts.length)) from
    (((((((turn_set _ _ _ _).mono (fun j e => .inr e)).trans ((turn_set _ _ _ _).mono (fun j e => .inl e))).trans ((turn_set _ _ _ _).mono (fun j e => .inl e))).trans ((turn_set _ _ _ _).mono (fun j e => .inl e))).trans ((turn_set _ _ _ _).mono (fun j e => .inl e))).trans ((turn_set _ _ _ _).mono (fun j e => .inl e))).trans ((turn_set _ _ _ _).mono (fun j e => .inl e)))
  have HL := hide (And.intro hly hlu)
  clear M3 LO hly hlu z1 z2
  go_wp2
  refine bodyPost_ret (v := .agg #[.slice (some ⟨w.heap.size + 1 + 1 + 1, 0, none⟩) xs.length xs.length, .int .i64 L.stack, .slice (some ⟨w1.heap.size, 0, none⟩) L.slots.length L.slots.length, .int .i64 L.flash, .int .i64 L.ram, .slice (some ⟨w2.heap.size, 0, none⟩) ts.length ts.length]) (by simp [results, Tryz.results13, go_sem, p0, p1, p2, p3, p4, p5]) rfl ⟨(HFIN.out _ HT.out).1, some ⟨w.heap.size + 1 + 1 + 1, 0, none⟩, xs.length, ys, some ⟨w1.heap.size, 0, none⟩, L.slots.length, some ⟨w2.heap.size, 0, none⟩, ts.length, us, ?_, (HFIN.out _ HT.out).2⟩
  rw [HL.out.1, HL.out.2]
end Go.Proofs.YtngdgogjlpjjpaeGreat

namespace Go.Proofs.YtngdgogjlpjjpaeGreat
open Go.RowKit
set_option linter.unusedVariables false
set_option linter.unusedSimpArgs false
set_option maxRecDepth 100000

set_option maxHeartbeats 2000000 in
theorem szLayout_any (L : Lay) (a0 : Option Addr) (c0 : Nat) (xs : List PB) (a2 : Option Addr) (c2 : Nat) (a5 : Option Addr) (c5 : Nat) (ts : List TB) (l : Int) (w : World) (h : LyT w L a0 c0 xs a2 c2 a5 c5 ts) (l0 : 0 ≤ l) (l1 : l ≤ 1048576) :
    Calls Tryz.prog 10 #[.agg #[.slice a0 xs.length c0, .int .i64 L.stack, .slice a2 L.slots.length c2, .int .i64 L.flash, .int .i64 L.ram, .slice a5 ts.length c5], .int .i64 l] w fun e w' => e = .returned (.int .i64 (szR l (lySz L xs ts))) ∧ Below w.heap.size w w' := by
  have k0 := Blk.new w #[.slice a0 xs.length c0, .int .i64 L.stack, .slice a2 L.slots.length c2, .int .i64 L.flash, .int .i64 L.ram, .slice a5 ts.length c5] 27
  have B0 : Below w.heap.size w (w.alloc (.cells #[.slice a0 xs.length c0, .int .i64 L.stack, .slice a2 L.slots.length c2, .int .i64 L.flash, .int .i64 L.ram, .slice a5 ts.length c5] 27)) := (Below.refl _ _).alloc (Nat.le_refl _) _
  have H1 := hide (szPlaceS_any a0 xs.length c0 xs l _ (h.p.below B0) l0 l1)
  have H2 := hide (fun (z : Int) (W : World) (z0 : 0 ≤ z) (z1 : z ≤ 1048576) => szIntS_any a2 L.slots.length c2 z W z0 z1 h.s.2.1)
  have H3 := hide (fun (z : Int) (W : World) (hb : Below w.heap.size w W) (z0 : 0 ≤ z) (z1 : z ≤ 1048576) => szTargetSS_any a5 ts.length c5 ts z W (h.t.below hb) z0 z1)
  rw [show xs.length + upS (fun j => (xs.getD j zPB).1.banks.length) xs.length = plSz xs from rfl] at H1
  rw [show ts.length + upS (fun j => (ts.getD j zTB).1.length) ts.length = tsSz ts from rfl] at H3
  have HY := hide (show lySz L xs ts = plSz xs + L.slots.length + tsSz ts from rfl)
  obtain ⟨r, hr⟩ : ∃ r, r = szR l (lySz L xs ts) := ⟨_, rfl⟩
  rw [← hr]
  rw [HY.out] at hr
  unfold szR at hr H1 H3
  have HR := hide hr
  have HK := hide (And.intro B0 k0)
  clear hr HY B0 k0 h
  generalize plSz xs = p at *
  generalize tsSz ts = t at *
  by_cases c1 : l < (p : Int)
  · rw [if_pos c1] at H1
    have e := hide (show r = -1 from by rw [HR.out, if_pos (by omega)])
    go_enter Tryz.func10, Tryz.ntmps10
    go_wp2_with fail
    refine H1.out.mono ?_
    rintro e w1 ⟨rfl, hb1⟩
    go_wp2
    go_ret
    exact ⟨ret_int e.out.symm, HK.out.1.trans (hb1.mono HK.out.1.size)⟩
  rw [if_neg c1] at H1
  have d1 : ¬ l - (p : Int) < 0 := by omega
  go_enter Tryz.func10, Tryz.ntmps10
  go_wp2_with fail
  refine H1.out.mono ?_
  rintro e w1 ⟨rfl, hb1⟩
  have B1 := HK.out.1.trans (hb1.mono HK.out.1.size)
  have k1 := HK.out.2.below hb1
  clear hb1 HK H1
  have q2 : w1.cell? ⟨w.heap.size, 2, none⟩ = some (.slice a2 L.slots.length c2) := k1.cell 2
  have q5 : w1.cell? ⟨w.heap.size, 5, none⟩ = some (.slice a5 ts.length c5) := k1.cell 5
  go_wp2_with fail
  refine (H2.out (l - p) _ (by omega) (by omega)).mono ?_
  rintro e w2 ⟨rfl, rfl⟩
  by_cases c2' : l - (p : Int) < (L.slots.length : Int)
  · rw [if_pos c2']
    have e := hide (show r = -1 from by rw [HR.out, if_pos (by omega)])
    go_wp2
    go_ret
    exact ⟨ret_int e.out.symm, B1⟩
  rw [if_neg c2']
  have d2 : ¬ l - (p : Int) - (L.slots.length : Int) < 0 := by omega
  go_wp2_with fail
  refine (H3.out (l - p - L.slots.length) _ B1 (by omega) (by omega)).mono ?_
  rintro e w3 ⟨rfl, rfl⟩
  by_cases c3 : l - (p : Int) - (L.slots.length : Int) < (t : Int)
  · rw [if_pos c3]
    have e := hide (show r = -1 from by rw [HR.out, if_pos (by omega)])
    go_wp2
    go_ret
    exact ⟨ret_int e.out.symm, B1⟩
  rw [if_neg c3]
  have d3 : ¬ l - (p : Int) - (L.slots.length : Int) - (t : Int) < 0 := by omega
  have e := hide (show r = l - (p : Int) - (L.slots.length : Int) - (t : Int) from by rw [HR.out, if_neg (by omega)]; omega)
  go_wp2
  go_ret
  exact ⟨ret_int e.out.symm, B1⟩
end Go.Proofs.YtngdgogjlpjjpaeGreat
