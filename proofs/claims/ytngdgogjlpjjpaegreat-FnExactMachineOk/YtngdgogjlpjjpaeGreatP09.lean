import Derived.Test.YtngdgogjlpjjpaeGreatP08
namespace Go.Proofs.YtngdgogjlpjjpaeGreat
open Go.RowKit
set_option linter.unusedVariables false
set_option linter.unusedSimpArgs false
set_option maxRecDepth 100000
def set8 (w : World) (g o : Nat) (m : Md) : World := ((((((((w.setCell ⟨g, o, none⟩ (.string m.nm)).setCell ⟨g, o + 1, none⟩ (.slice m.ta m.tn m.tc)).setCell ⟨g, o + 2, none⟩ (.slice m.ba m.bn m.bc)).setCell ⟨g, o + 3, none⟩ (.slice m.da m.dn m.dc)).setCell ⟨g, o + 4, none⟩ (.int .i64 m.bss)).setCell ⟨g, o + 5, none⟩ (.slice m.ra m.rn m.rc)).setCell ⟨g, o + 6, none⟩ (.slice m.ia m.im m.ic)).setCell ⟨g, o + 7, none⟩ (.slice m.ea m.en m.ec))
theorem set8_other (w : World) (g o b o' : Nat) (m : Md) (h : b ≠ g ∨ o' < o ∨ o + 8 ≤ o') : (set8 w g o m).cell? ⟨b, o', none⟩ = w.cell? ⟨b, o', none⟩ := by
  unfold set8
  rw [cellO (by omega), cellO (by omega), cellO (by omega), cellO (by omega), cellO (by omega), cellO (by omega), cellO (by omega), cellO (by omega)]
theorem set8_at {w : World} {g o : Nat} {q : Md} (h : At8 w g o q) (m : Md) : At8 (set8 w g o m) g o m := by
  obtain ⟨h0, h1, h2, h3, h4, h5, h6, h7⟩ := h
  unfold set8
  refine ⟨?_, ?_, ?_, ?_, ?_, ?_, ?_, ?_⟩
  · rw [cellO (by omega), cellO (by omega), cellO (by omega), cellO (by omega), cellO (by omega), cellO (by omega), cellO (by omega)]; exact cellS (u := _) (by exact h0)
  · rw [cellO (by omega), cellO (by omega), cellO (by omega), cellO (by omega), cellO (by omega), cellO (by omega)]; exact cellS (u := _) (by rw [cellO (by omega)]; exact h1)
  · rw [cellO (by omega), cellO (by omega), cellO (by omega), cellO (by omega), cellO (by omega)]; exact cellS (u := _) (by rw [cellO (by omega), cellO (by omega)]; exact h2)
  · rw [cellO (by omega), cellO (by omega), cellO (by omega), cellO (by omega)]; exact cellS (u := _) (by rw [cellO (by omega), cellO (by omega), cellO (by omega)]; exact h3)
  · rw [cellO (by omega), cellO (by omega), cellO (by omega)]; exact cellS (u := _) (by rw [cellO (by omega), cellO (by omega), cellO (by omega), cellO (by omega)]; exact h4)
  · rw [cellO (by omega), cellO (by omega)]; exact cellS (u := _) (by rw [cellO (by omega), cellO (by omega), cellO (by omega), cellO (by omega), cellO (by omega)]; exact h5)
  · rw [cellO (by omega)]; exact cellS (u := _) (by rw [cellO (by omega), cellO (by omega), cellO (by omega), cellO (by omega), cellO (by omega), cellO (by omega)]; exact h6)
  · exact cellS (u := _) (by rw [cellO (by omega), cellO (by omega), cellO (by omega), cellO (by omega), cellO (by omega), cellO (by omega), cellO (by omega)]; exact h7)
theorem set8_far {w : World} {g o b o' : Nat} {q : Md} (h : At8 w b o' q) (m : Md) (hf : b ≠ g ∨ o' + 8 ≤ o ∨ o + 8 ≤ o') : At8 (set8 w g o m) b o' q := by
  unfold At8
  rw [set8_other _ _ _ _ _ _ (by omega), set8_other _ _ _ _ _ _ (by omega), set8_other _ _ _ _ _ _ (by omega), set8_other _ _ _ _ _ _ (by omega), set8_other _ _ _ _ _ _ (by omega), set8_other _ _ _ _ _ _ (by omega), set8_other _ _ _ _ _ _ (by omega), set8_other _ _ _ _ _ _ (by omega)]
  exact h
theorem set8_blk {w : World} {g : Nat} {cur : Array Value} {t : TypeId} (h : Blk w g cur t) (o : Nat) (m : Md) : ∃ cur', Blk (set8 w g o m) g cur' t ∧ cur'.size = cur.size :=
  ⟨_, ((((((((h.set (o) _).set (o + 1) _).set (o + 2) _).set (o + 3) _).set (o + 4) _).set (o + 5) _).set (o + 6) _).set (o + 7) _), by simp⟩
theorem set8_below {B : Nat} {a w : World} (h : Below B a w) {g : Nat} (hg : B ≤ g) (o : Nat) (m : Md) : Below B a (set8 w g o m) :=
  ((((((((h.setCell (p := ⟨g, o, none⟩) hg _).setCell (p := ⟨g, o + 1, none⟩) hg _).setCell (p := ⟨g, o + 2, none⟩) hg _).setCell (p := ⟨g, o + 3, none⟩) hg _).setCell (p := ⟨g, o + 4, none⟩) hg _).setCell (p := ⟨g, o + 5, none⟩) hg _).setCell (p := ⟨g, o + 6, none⟩) hg _).setCell (p := ⟨g, o + 7, none⟩) hg _)
theorem set8_turn (c : Nat) (w : World) (g o : Nat) (m : Md) (h : g ≤ c) : Turn (fun j => j ≤ c) w (set8 w g o m) :=
  ((((((((turn_at c w g o _ h).trans (turn_at c _ g (o + 1) _ h)).trans (turn_at c _ g (o + 2) _ h)).trans (turn_at c _ g (o + 3) _ h)).trans (turn_at c _ g (o + 4) _ h)).trans (turn_at c _ g (o + 5) _ h)).trans (turn_at c _ g (o + 6) _ h)).trans (turn_at c _ g (o + 7) _ h))
def CopyOf (c : Nat) (m m' : Md) (W : World) : Prop := ∃ g1 g2 g3 g5 g6 g7 gs, m' = ⟨m.nm, some ⟨g1, 0, none⟩, m.tn, m.tn, m.tz, some ⟨g2, 0, none⟩, m.bn, m.bn, reb gs m.bl, some ⟨g3, 0, none⟩, m.dn, m.dn, m.dz, m.bss, some ⟨g5, 0, none⟩, m.rn, m.rn, m.rz, some ⟨g6, 0, none⟩, m.im, m.im, m.ss, some ⟨g7, 0, none⟩, m.en, m.en, m.es⟩ ∧ c < g1 ∧ g1 < g2 ∧ g2 < g3 ∧ g3 < g5 ∧ g5 < g6 ∧ g6 < g7 ∧ gs.length = m.bn ∧ RowI W g1 m.tz ∧ RowB W g2 m.bn gs m.bl ∧ Row8 W g3 m.dz ∧ RowI W g5 m.rz ∧ RowT W g6 m.ss ∧ RowX W g7 m.es
theorem copy_stab (c : Nat) (m m' : Md) : Stab c (CopyOf c m m') := fun W W' t h => by
  obtain ⟨g1, g2, g3, g5, g6, g7, gs, e, l1, l2, l3, l4, l5, l6, hg, r1, r2, r3, r5, r6, r7⟩ := h
  have key : RowB W' g2 m.bn gs m.bl := by
    obtain ⟨⟨cur, h2, h3⟩, h4, h5⟩ := r2
    exact ⟨⟨cur, turn_blk t h2 (by show ¬ g2 ≤ c; omega), h3⟩, fun i hi => ⟨turn_blk t (h4 i hi).1 (by show ¬ gs.getD i 0 ≤ c; have := (h4 i hi).2; omega), (h4 i hi).2⟩, h5⟩
  exact ⟨g1, g2, g3, g5, g6, g7, gs, e, l1, l2, l3, l4, l5, l6, hg, stab_i (by omega) W W' t r1, key, stab_8 (by omega) W W' t r3, stab_i (by omega) W W' t r5, stab_t (by omega) W W' t r6, stab_x (by omega) W W' t r7⟩
theorem copy_below {c : Nat} {m m' : Md} {W W' : World} (h : CopyOf c m m' W) (hb : Below W.heap.size W W') : CopyOf c m m' W' := copy_stab c m m' W W' (turn_below hb) h
theorem copy_mt {c : Nat} {m m' : Md} {w W : World} (hm : m.mt w) (h : CopyOf c m m' W) : m'.mt W := by
  obtain ⟨g1, g2, g3, g5, g6, g7, gs, rfl, _, _, _, _, _, _, hg, r1, r2, r3, r5, r6, r7⟩ := h
  exact mt_of_rows hm hg r1 r2 r3 r5 r6 r7
def RowM (W : World) (c n : Nat) (ms ms' : List Md) : Prop :=
  (∃ cur, Blk W c cur 104 ∧ cur.size = n * 8) ∧ (∀ i, i < n → ∃ q, At8 W c (i * 8) q) ∧ ∀ i, i < ms'.length → At8 W c (i * 8) (ms'.getD i zMd) ∧ CopyOf c (ms.getD i zMd) (ms'.getD i zMd) W
theorem RowM.below {W W' : World} {c n : Nat} {ms ms' : List Md} (h : RowM W c n ms ms') (hb : Below W.heap.size W W') : RowM W' c n ms ms' := by
  obtain ⟨⟨cur, hc, hs⟩, hq, hr⟩ := h
  exact ⟨⟨cur, hc.below hb, hs⟩, fun i hi => by obtain ⟨q, h⟩ := hq i hi; exact ⟨q, h.below hb⟩, fun i hi => ⟨(hr i hi).1.below hb, copy_below (hr i hi).2 hb⟩⟩
theorem getM_lt (ms : List Md) (x : Md) (i : Nat) (h : i < ms.length) : (ms ++ [x]).getD i zMd = ms.getD i zMd := by
  simp [List.getD_eq_getElem?_getD, List.getElem?_append_left h]
theorem getM_last (ms : List Md) (x : Md) : (ms ++ [x]).getD ms.length zMd = x := by
  simp [List.getD_eq_getElem?_getD]
theorem RowM.push {W : World} {c n : Nat} {ms ms' : List Md} (h : RowM W c n ms ms') (hk : ms'.length < n) (x : Md) (hx : CopyOf c (ms.getD ms'.length zMd) x W) : RowM (set8 W c (ms'.length * 8) x) c n ms (ms' ++ [x]) := by
  obtain ⟨⟨cur, hc, hs⟩, hq, hr⟩ := h
  obtain ⟨cur', hc', hs'⟩ := set8_blk hc (ms'.length * 8) x
  have T := set8_turn c W c (ms'.length * 8) x (Nat.le_refl _)
  refine ⟨⟨cur', hc', by rw [hs', hs]⟩, fun i hi => ?_, fun i hi => ?_⟩
  · obtain ⟨q, h⟩ := hq i hi
    by_cases e : i = ms'.length
    · subst e; exact ⟨x, set8_at h x⟩
    · exact ⟨q, set8_far h x (by omega)⟩
  · simp only [List.length_append, List.length_cons, List.length_nil] at hi
    by_cases e : i = ms'.length
    · subst e
      rw [getM_last]
      obtain ⟨q, h⟩ := hq _ hk
      exact ⟨set8_at h x, copy_stab _ _ _ _ _ T hx⟩
    · rw [getM_lt _ _ _ (by omega)]
      exact ⟨set8_far (hr i (by omega)).1 x (by omega), copy_stab _ _ _ _ _ T (hr i (by omega)).2⟩
theorem infoM : (Tryz.prog.info? 104).map (fun i => (i.zero, i.size, i.bytes)) = some (some (.agg #[.string ⟨#[]⟩, .slice none 0 0, .slice none 0 0, .slice none 0 0, .int .i64 0, .slice none 0 0, .slice none 0 0, .slice none 0 0]), 8, 168) := by kernel_rfl
theorem rowM_of_made {w : World} {base g n : Nat} {ms : List Md} (h : w.ownsRow base 104 8 (.slice (some ⟨g, 0, none⟩) n n) n (madeCells (Value.cells (.agg #[.string ⟨#[]⟩, .slice none 0 0, .slice none 0 0, .slice none 0 0, .int .i64 0, .slice none 0 0, .slice none 0 0, .slice none 0 0])) (n * 8)).toList) : RowM w g n ms [] := by
  obtain ⟨hl, h | ⟨g', cap, cur, hv, hb, hh, h1, h2, h3, h4⟩⟩ := h
  · simp at h
  · simp at hv
    obtain ⟨rfl, rfl⟩ := hv
    have e : cur.toList = (madeCells (Value.cells (.agg #[.string ⟨#[]⟩, .slice none 0 0, .slice none 0 0, .slice none 0 0, .int .i64 0, .slice none 0 0, .slice none 0 0, .slice none 0 0])) (n * 8)).toList := by
      rw [← h4, List.take_of_length_le (by simp [h3])]
    have e2 : cur = madeCells (Value.cells (.agg #[.string ⟨#[]⟩, .slice none 0 0, .slice none 0 0, .slice none 0 0, .int .i64 0, .slice none 0 0, .slice none 0 0, .slice none 0 0])) (n * 8) := Array.toList_inj.1 e
    have hB : Blk w g cur 104 := hh
    refine ⟨⟨cur, hB, by simp [h3]⟩, fun i hi => ⟨zMd, ?_⟩, fun i hi => by simp at hi⟩
    have hcell : ∀ j, j < 8 → w.cell? ⟨g, i * 8 + j, none⟩ = #[Value.string ⟨#[]⟩, .slice none 0 0, .slice none 0 0, .slice none 0 0, .int .i64 0, .slice none 0 0, .slice none 0 0, .slice none 0 0][j]? := by
      intro j hj
      rw [hB.cell, e2]
      have hm : (i * 8 + j) % 8 = j := by omega
      simp [madeCells, Value.cells, show i * 8 + j < n * 8 by omega, hm]
      match j, hj with
      | 0, _ => rfl
      | 1, _ => rfl
      | 2, _ => rfl
      | 3, _ => rfl
      | 4, _ => rfl
      | 5, _ => rfl
      | 6, _ => rfl
      | 7, _ => rfl
    exact ⟨hcell 0 (by omega), hcell 1 (by omega), hcell 2 (by omega), hcell 3 (by omega), hcell 4 (by omega), hcell 5 (by omega), hcell 6 (by omega), hcell 7 (by omega)⟩
set_option maxHeartbeats 2000000 in
theorem toModuleS_any (a : Option Addr) (n cap : Nat) (ms : List Md) (w : World) (h : MS w a n cap ms) (hn : n ≤ 1048576) (hs : ∀ i, i < n → (ms.getD i zMd).size ≤ 1048576) :
    Calls Tryz.prog 12 #[.slice a n cap] w fun e w' => e = .returned (.slice (some ⟨w.heap.size, 0, none⟩) n n) ∧ (∃ ms', ms'.length = n ∧ RowM w' w.heap.size n ms ms') ∧ Below w.heap.size w w' := by
  obtain ⟨i0, hi, hz0, hz1, hz2⟩ := info_parts infoM
  go_enter Tryz.func12, Tryz.ntmps12
  go_wp2_with (at_make; refine wpList_make_full _ rfl _ _ 31 rfl w.heap.size 104 i0 (.agg #[.string ⟨#[]⟩, .slice none 0 0, .slice none 0 0, .slice none 0 0, .int .i64 0, .slice none 0 0, .slice none 0 0, .slice none 0 0]) 8 Tryz.underlying31 hi hz0 hz1 .i64 .i64 _ _ n rfl rfl rfl rfl (by rw [hz2]; omega) (by unfold maxLen; omega) (Nat.le_refl _) ?_; intro w1 hown hgr)
  have hrow : RowM w1 w.heap.size n ms [] := rowM_of_made hown
  have hbel := below_grown hgr
  clear hown hgr hi hz0 hz1 hz2
  go_loopw [4] (fun i wr => ∃ k : Nat, k ≤ n ∧ i = .int .i64 k ∧ (∃ ms', ms'.length = k ∧ RowM wr w.heap.size n ms ms') ∧ Below w.heap.size w wr) (fun i _ => n - (intOf i).toNat)
  case atStart => exact ⟨0, Nat.zero_le _, rfl, ⟨[], rfl, hrow⟩, hbel⟩
  case round =>
    obtain ⟨k, hk, rfl, ⟨ms', hl, hR⟩, hB⟩ := hrel
    clear hrow hbel
    by_cases hlt : k < n
    · have hlt' : (k : Int) < (n : Int) := by omega
      obtain ⟨b, off, rfl, y0, y1, y2, y3, y4, y5, y6, y7⟩ := (h.below hB).at k hlt
      have HT := hide ((h.below hB).2.2.2.1 k hlt)
      have hsk := hs k hlt
      have HP := hide (fun (W : World) (x : Md) (hW : Below wr.heap.size wr W) (hx : CopyOf w.heap.size (ms.getD k zMd) x W) => by
        have hp := (hR.below hW).push (by omega) x (by rw [hl]; exact hx)
        rw [hl] at hp
        exact hp)
      have HF := hide (fun (W : World) (hW : Below wr.heap.size wr W) => show (∃ q, At8 W w.heap.size (k * 8) q) ∧ ∀ i, W.frozen? ⟨w.heap.size, i, none⟩ = false from ⟨(hR.below hW).2.1 k hlt, by obtain ⟨⟨cur, hc, _⟩, _⟩ := hR.below hW; exact hc.frozen⟩)
      have hcl : w.heap.size < wr.heap.size := by obtain ⟨⟨cur, hc, _⟩, _⟩ := hR; exact hc.lt
      clear hR
      generalize ms.getD k zMd = m at *
      obtain ⟨nm, ta, tn, tc, tz, ba, bn, bc, bl, da, dn, dc, dz, bss, ra, rn, rc, rz, ia, im, ic, ss, ea, en, ec, es⟩ := m
      dsimp only at y0 y1 y2 y3 y4 y5 y6 y7
      have HS := hide (toModule_any nm ta tn tc tz ba bn bc bl da dn dc dz bss ra rn rc rz ia im ic ss ea en ec es wr HT.out hsk)
      clear hsk
      go_wp2_with fail
      refine HS.out.mono ?_
      rintro e w2 ⟨g1, g2, g3, g5, g6, g7, rfl, l1, l2, l3, l4, l5, l6, r1, ⟨gs, hg, r2⟩, r3, r5, r6, r7, hb2⟩
      have HX := hide (HP.out w2 ⟨nm, some ⟨g1, 0, none⟩, tn, tn, tz, some ⟨g2, 0, none⟩, bn, bn, reb gs bl, some ⟨g3, 0, none⟩, dn, dn, dz, bss, some ⟨g5, 0, none⟩, rn, rn, rz, some ⟨g6, 0, none⟩, im, im, ss, some ⟨g7, 0, none⟩, en, en, es⟩ hb2 ⟨g1, g2, g3, g5, g6, g7, gs, rfl, by omega, l2, l3, l4, l5, l6, hg, r1, r2, r3, r5, r6, r7⟩)
      obtain ⟨⟨q, p0, p1, p2, p3, p4, p5, p6, p7⟩, hfz⟩ := HF.out w2 hb2
      have HB2 := hide (set8_below (hB.trans (hb2.mono hB.size)) (Nat.le_refl w.heap.size) (k * 8) ⟨nm, some ⟨g1, 0, none⟩, tn, tn, tz, some ⟨g2, 0, none⟩, bn, bn, reb gs bl, some ⟨g3, 0, none⟩, dn, dn, dz, bss, some ⟨g5, 0, none⟩, rn, rn, rz, some ⟨g6, 0, none⟩, im, im, ss, some ⟨g7, 0, none⟩, en, en, es⟩)
      clear HP HF HS HT y0 y1 y2 y3 y4 y5 y6 y7 r1 r2 r3 r5 r6 r7 hb2 hB
      go_wp2
      go_roundw
      case rel => exact ⟨k + 1, by omega, by go_num, ⟨_, by rw [List.length_append, hl]; rfl, HX.out⟩, HB2.out⟩
      case measure => simp [intOf]; omega
    · have e : Hid (k = n) := by show k = n; omega
      go_wp2
      go_ret
      exact ⟨rfl, ⟨ms', by rw [hl, e.out], hR⟩, hB⟩
end Go.Proofs.YtngdgogjlpjjpaeGreat
namespace Go.Proofs.YtngdgogjlpjjpaeGreat
open Go.RowKit Go.Maps
set_option linter.unusedVariables false
set_option linter.unusedSimpArgs false
set_option maxRecDepth 100000
def Same (m m' : Md) : Prop := m.nm = m'.nm ∧ m.tn = m'.tn ∧ m.tz = m'.tz ∧ m.bn = m'.bn ∧ (∀ i, i < m.bn → (m'.bl.getD i zB).2.1 = (m.bl.getD i zB).2.1 ∧ (m'.bl.getD i zB).2.2.2 = (m.bl.getD i zB).2.2.2) ∧ m.dn = m'.dn ∧ m.dz = m'.dz ∧ m.bss = m'.bss ∧ m.rn = m'.rn ∧ m.rz = m'.rz ∧ m.im = m'.im ∧ m.ss = m'.ss ∧ m.en = m'.en ∧ m.es = m'.es
theorem same_copies {c c' : Nat} {m x y : Md} {W W' : World} (hb : m.bl.length = m.bn) (h : CopyOf c m x W) (h' : CopyOf c' m y W') : Same x y := by
  obtain ⟨_, _, _, _, _, _, gs, rfl, _⟩ := h
  obtain ⟨_, _, _, _, _, _, gs', rfl, _⟩ := h'
  exact ⟨rfl, rfl, rfl, rfl, fun i hi => by dsimp only at hi ⊢; rw [reb_at _ _ _ (by omega), reb_at _ _ _ (by omega)]; exact ⟨rfl, rfl⟩, rfl, rfl, rfl, rfl, rfl, rfl, rfl, rfl, rfl⟩
set_option maxHeartbeats 2000000 in
theorem eqModuleS_same (a a' : Option Addr) (n cap cap' : Nat) (ms ms' : List Md) (w : World) (h : MS w a n cap ms) (h' : MS w a' n cap' ms') (hz : ∀ i, i < n → Same (ms.getD i zMd) (ms'.getD i zMd)) :
    Calls Tryz.prog 15 #[.slice a n cap, .slice a' n cap'] w fun e w' => e = .returned (.bool true) ∧ Below w.heap.size w w' := by
  have hmx := h.2.1
  unfold maxLen at hmx
  have hne : ((n : Int) != (n : Int)) = false := by simp
  go_enter Tryz.func15, Tryz.ntmps15
  go_wp2
  go_loopw [5] (fun i wr => ∃ k : Nat, k ≤ n ∧ i = .int .i64 k ∧ Below w.heap.size w wr) (fun i _ => n - (intOf i).toNat)
  case atStart => exact ⟨0, Nat.zero_le _, rfl, Below.refl _ _⟩
  case round =>
    obtain ⟨k, hk, rfl, hB⟩ := hrel
    by_cases hlt : k < n
    · have hlt' : (k : Int) < (n : Int) := by omega
      obtain ⟨b, off, rfl, q0, q1, q2, q3, q4, q5, q6, q7⟩ := (h.below hB).at k hlt
      obtain ⟨b', off', rfl, p0, p1, p2, p3, p4, p5, p6, p7⟩ := (h'.below hB).at k hlt
      have m1 := (h.below hB).2.2.2.1 k hlt
      have m2 := (h'.below hB).2.2.2.1 k hlt
      have hs := hz k hlt
      generalize ms.getD k zMd = m at *
      generalize ms'.getD k zMd = m' at *
      obtain ⟨nm, ta, tn, tc, tz, ba, bn, bc, bl, da, dn, dc, dz, bss, ra, rn, rc, rz, ia, im, ic, ss, ea, en, ec, es⟩ := m
      obtain ⟨nm', ta', tn', tc', tz', ba', bn', bc', bl', da', dn', dc', dz', bss', ra', rn', rc', rz', ia', im', ic', ss', ea', en', ec', es'⟩ := m'
      obtain ⟨e1, e2, e3, e4, hbl, e5, e6, e7, e8, e9, e10, e11, e12, e13⟩ := hs
      dsimp only at e1 e2 e3 e4 hbl e5 e6 e7 e8 e9 e10 e11 e12 e13 q0 q1 q2 q3 q4 q5 q6 q7 p0 p1 p2 p3 p4 p5 p6 p7
      subst e1 e2 e3 e4 e5 e6 e7 e8 e9 e10 e11 e12 e13
      have HE := hide (fun w h h' => eqModule_same nm ta ta' tn tc tc' tz ba ba' bn bc bc' bl bl' da da' dn dc dc' dz bss ra ra' rn rc rc' rz ia ia' im ic ic' ss ea ea' en ec ec' es w h h' hbl)
      clear hbl
      have HM := hide (And.intro m1 m2)
      clear m1 m2
      go_wp2
      go_region_held3 (fun w' => w'.cell? ⟨b, off + k * 8, none⟩ = some (.string nm) ∧ w'.cell? ⟨b, off + k * 8 + 1, none⟩ = some (.slice ta tn tc) ∧ w'.cell? ⟨b, off + k * 8 + 2, none⟩ = some (.slice ba bn bc) ∧ w'.cell? ⟨b, off + k * 8 + 3, none⟩ = some (.slice da dn dc) ∧ w'.cell? ⟨b, off + k * 8 + 4, none⟩ = some (.int .i64 bss) ∧ w'.cell? ⟨b, off + k * 8 + 5, none⟩ = some (.slice ra rn rc) ∧ w'.cell? ⟨b, off + k * 8 + 6, none⟩ = some (.slice ia im ic) ∧ w'.cell? ⟨b, off + k * 8 + 7, none⟩ = some (.slice ea en ec) ∧ w'.cell? ⟨b', off' + k * 8, none⟩ = some (.string nm) ∧ w'.cell? ⟨b', off' + k * 8 + 1, none⟩ = some (.slice ta' tn tc') ∧ w'.cell? ⟨b', off' + k * 8 + 2, none⟩ = some (.slice ba' bn bc') ∧ w'.cell? ⟨b', off' + k * 8 + 3, none⟩ = some (.slice da' dn dc') ∧ w'.cell? ⟨b', off' + k * 8 + 4, none⟩ = some (.int .i64 bss) ∧ w'.cell? ⟨b', off' + k * 8 + 5, none⟩ = some (.slice ra' rn rc') ∧ w'.cell? ⟨b', off' + k * 8 + 6, none⟩ = some (.slice ia' im ic') ∧ w'.cell? ⟨b', off' + k * 8 + 7, none⟩ = some (.slice ea' en ec')) (go_keep)
        (first
          | (go_at_call 58; refine (HE.out _ (MT.below HM.out.1 (Below.refl _ _).drew) (MT.below HM.out.2 (Below.refl _ _).drew)).mono ?_; rintro e w1 ⟨rfl, hb1⟩; replace hb1 := undrew hb1; obtain ⟨hc1, hf1⟩ := bcell hb1; have hlb := World.block_lt_of_cell? _ _ q0; have hlb' := World.block_lt_of_cell? _ _ p0))
      clear hc1 hf1 q0 q1 q2 q3 q4 q5 q6 q7 p0 p1 p2 p3 p4 p5 p6 p7
      go_wp2
      go_roundw
      case rel => exact ⟨k + 1, by omega, by go_num, hB.trans (hb1.mono hB.size)⟩
      case measure => simp [intOf]; omega
    · go_wp2
      go_ret
      exact ⟨rfl, hB⟩
theorem moduleName_any (m : Md) (w : World) : Calls Tryz.prog 227 #[.agg m.cells] w fun e w' => e = .returned (.string m.nm) ∧ Below w.heap.size w w' := by
  unfold Md.cells
  go_enter Tryz.func227, Tryz.ntmps227
  go_wp2
  go_ret
  exact ⟨rfl, (Below.refl _ _).alloc (Nat.le_refl _) _⟩
def mdNm (ms : List Md) (i : Nat) : List UInt8 := (ms.getD i zMd).nm.data.toList
set_option maxHeartbeats 2000000 in
theorem firstOfM_any (a : Option Addr) (n cap : Nat) (ms : List Md) (w : World) (h : MS w a n cap ms) (hn : n ≤ 1048576) :
    Calls Tryz.prog 226 #[.slice a n cap, .func (.func 227) #[] #[]] w fun e w' => e = .returned (.map (some w.heap.size)) ∧ w'.ownsMap Tryz.prog 9 (plainElem Tryz.prog 3) w.heap.size n (fd (mdNm ms) n) ∧ Below w.heap.size w w' := by
  have hmm := run_makeMap_room
  have hm1 := h.2.1
  unfold maxLen at hm1
  go_enter Tryz.func226, Tryz.ntmps226
  go_wp2
  go_loopw [16] (fun i wr => ∃ k : Nat, k ≤ n ∧ i = .int .i64 k ∧ wr.ownsMap Tryz.prog 9 (plainElem Tryz.prog 3) w.heap.size k (fd (mdNm ms) k) ∧ Below w.heap.size w wr) (fun i _ => n - (intOf i).toNat)
  case atStart => exact ⟨0, Nat.zero_le _, rfl, World.ownsMap_made _ _ _ _, (Below.refl _ _).alloc (Nat.le_refl _) _⟩
  case round =>
    obtain ⟨k, hk, rfl, hown, hB⟩ := hrel
    by_cases hlt : k < n
    · have hlt' : (k : Int) < (n : Int) := by omega
      obtain ⟨bb, off, rfl, q0, q1, q2, q3, q4, q5, q6, q7⟩ := (h.below hB).at k hlt
      have hsz := (h.2.2.2.1 k hlt).n
      have HX := hide (fd_succ (mdNm ms) k)
      have hkl : mdNm ms k = (ms.getD k zMd).nm.data.toList := rfl
      rw [hkl] at HX
      clear hkl
      generalize ms.getD k zMd = m at *
      obtain ⟨nm, ta, tn, tc, tz, ba, bn, bc, bl, da, dn, dc, dz, bss, ra, rn, rc, rz, ia, im, ic, ss, ea, en, ec, es⟩ := m
      dsimp only at q0 q1 q2 q3 q4 q5 q6 q7 hsz HX
      have HKEY := hide (show keyOf Tryz.prog 9 (.string nm) = some (.string nm.data.toList) from Go.WideMaps.keyOf_string_mk Tryz.underlying9 hsz)
      have HMN := hide (fun w => moduleName_any ⟨nm, ta, tn, tc, tz, ba, bn, bc, bl, da, dn, dc, dz, bss, ra, rn, rc, rz, ia, im, ic, ss, ea, en, ec, es⟩ w)
      have hA : Below wr.heap.size wr (wr.alloc (.cells #[.string nm, .slice ta tn tc, .slice ba bn bc, .slice da dn dc, .int .i64 bss, .slice ra rn rc, .slice ia im ic, .slice ea en ec] 104)) := (Below.refl _ _).alloc (Nat.le_refl _) _
      go_wp2_with fail
      refine (HMN.out _).mono ?_
      rintro e w1 ⟨rfl, hb1⟩
      have hb1' := hA.trans (hb1.mono hA.size)
      have hB1 := hB.trans (hb1'.mono hB.size)
      have hown1 : w1.ownsMap Tryz.prog 9 (plainElem Tryz.prog 3) w.heap.size k (fd (mdNm ms) k) := by
        obtain ⟨es', cl, hh, r⟩ := hown
        refine ⟨es', cl, ?_, r⟩
        have hl : w.heap.size < wr.heap.size := by
          rcases Nat.lt_or_ge w.heap.size wr.heap.size with h' | h'
          · exact h'
          · rw [Array.getElem?_eq_none h'] at hh; cases hh
        rw [hb1'.block _ hl]
        exact hh
      clear hown hA hb1 hb1' q0 q1 q2 q3 q4 q5 q6 q7
      cases hh : has (fd (mdNm ms) k) (.string nm.data.toList)
      · rw [hh] at HX
        go_wp2_with (first
          | (at_lookup; refine wpList_lookup_own_ok_int _ rfl _ _ 262 rfl 9 3 .i64 lawS Tryz.underlying262 Tryz.underlying3 (zeroI _) w.heap.size k _ rfl hown1 _ _ rfl HKEY.out ?_; intro c hat hwc; clear hat; rw [hh])
          | (at_mapUpdate; refine wpList_mapUpdate_own _ rfl _ _ _ 262 rfl 9 3 lawS Tryz.underlying262 _ w.heap.size k _ rfl hown1 (by unfold maxLen; omega) _ _ _ rfl rfl HKEY.out _ [] (plainElem_int Tryz.underlying3 (WalkArith.wf_i64 (by omega))) ?_; intro w2 hown2 hgr2))
        have HO := hide hown2
        have HB2 := hide (hB1.grown hgr2 hB1.size (fun j hj => by cases hj; exact Nat.le_refl _))
        clear hown2 hgr2 hown1
        go_wp2
        go_roundw
        case rel => exact ⟨k + 1, by omega, by go_num, by have := HO.out; rw [HX.out, if_neg (by simp)]; exact this, HB2.out⟩
        case measure => simp [intOf]; omega
      · rw [hh] at HX
        go_wp2_with (first
          | (at_lookup; refine wpList_lookup_own_ok_int _ rfl _ _ 262 rfl 9 3 .i64 lawS Tryz.underlying262 Tryz.underlying3 (zeroI _) w.heap.size k _ rfl hown1 _ _ rfl HKEY.out ?_; intro c hat hwc; clear hat; rw [hh]))
        have HO := hide hown1
        clear hown1
        go_wp2
        go_roundw
        case rel => exact ⟨k + 1, by omega, by go_num, by have := HO.out; rw [HX.out, if_pos trivial]; exact this.mono (by omega), hB1⟩
        case measure => simp [intOf]; omega
    · have e : Hid (k = n) := by show k = n; omega
      go_wp2
      go_ret
      exact ⟨rfl, by rw [e.out] at hown; exact hown, hB⟩
def tbf (n : Nat) (ms : List Md) : Bool := decide (n ≤ 4) && (List.range n).all fun i => decide ((ms.getD i zMd).en ≤ 16)
set_option maxHeartbeats 1000000 in
theorem tablesFit_any (a : Option Addr) (n cap : Nat) (ms : List Md) (w : World) (h : MS w a n cap ms) :
    Calls Tryz.prog 270 #[.slice a n cap] w fun e w' => e = .returned (.bool (tbf n ms)) ∧ Below w.heap.size w w' := by
  have hm1 := h.2.1
  unfold maxLen at hm1
  obtain ⟨r, hr⟩ : ∃ r, r = tbf n ms := ⟨_, rfl⟩
  rw [← hr]
  unfold tbf at hr
  by_cases c1 : 4 < n
  · have HR := hide (show r = false by rw [hr, decide_eq_false (by omega)]; rfl)
    clear hr
    have c1' : (4 : Int) < (n : Int) := by omega
    go_enter Tryz.func270, Tryz.ntmps270
    go_wp2
    go_ret
    exact ⟨ret_bool HR.out.symm, Below.refl _ _⟩
  · have c1' : ¬ (4 : Int) < (n : Int) := by omega
    have HR := hide (show r = (List.range n).all (fun i => decide ((ms.getD i zMd).en ≤ 16)) by rw [hr, decide_eq_true (by omega)]; rfl)
    clear hr
    go_enter Tryz.func270, Tryz.ntmps270
    go_wp2_with fail
    go_loopw [10] (fun i wr => ∃ k : Nat, k ≤ n ∧ i = .int .i64 k ∧ Hid (∀ j, j < k → decide ((ms.getD j zMd).en ≤ 16) = true) ∧ Below w.heap.size w wr) (fun i _ => n - (intOf i).toNat)
    case atStart => exact ⟨0, Nat.zero_le _, rfl, hide (fun j hj => by omega), Below.refl _ _⟩
    case round =>
      obtain ⟨k, hk, rfl, HJ, hB⟩ := hrel
      by_cases hlt : k < n
      · have hlt' : (k : Int) < (n : Int) := by omega
        obtain ⟨bb, off, rfl, q0, q1, q2, q3, q4, q5, q6, q7⟩ := (h.below hB).at k hlt
        have HZ := hide (rng_bad (fun i => decide ((ms.getD i zMd).en ≤ 16)) n k hlt)
        have HG := hide (show decide ((ms.getD k zMd).en ≤ 16) = true → ∀ j, j < k + 1 → decide ((ms.getD j zMd).en ≤ 16) = true from fun h j hj => by
          by_cases e : j = k
          · subst e; exact h
          · exact HJ.out j (by omega))
        generalize ms.getD k zMd = m at *
        obtain ⟨nm, ta, tn, tc, tz, ba, bn, bc, bl, da, dn, dc, dz, bss, ra, rn, rc, rz, ia, im, ic, ss, ea, en, ec, es⟩ := m
        dsimp only at q0 q1 q2 q3 q4 q5 q6 q7 HZ HG
        have HB1 := hide (hB.alloc hB.size (.cells #[.string nm, .slice ta tn tc, .slice ba bn bc, .slice da dn dc, .int .i64 bss, .slice ra rn rc, .slice ia im ic, .slice ea en ec] 104))
        by_cases d : 16 < en
        · have d' : (16 : Int) < (en : Int) := by omega
          go_wp2
          go_ret
          exact ⟨ret_bool (by rw [HR.out]; exact (HZ.out (decide_eq_false (by omega))).symm), HB1.out⟩
        · have d' : ¬ (16 : Int) < (en : Int) := by omega
          go_wp2
          go_roundw
          case rel => exact ⟨k + 1, by omega, by go_num, hide (HG.out (decide_eq_true (by omega))), HB1.out⟩
          case measure => simp [intOf]; omega
      · have HE := hide (rng_good (fun i => decide ((ms.getD i zMd).en ≤ 16)) n (fun j hj => HJ.out j (by omega)))
        go_wp2
        go_ret
        exact ⟨ret_bool (by rw [HR.out]; exact HE.out.symm), hB⟩
def rsT (n : Nat) (ms : List Md) (s : ByteArray) : Option (Nat × Nat) :=
  if full s = true ∧ tbf n ms = true then (fst? (mdNm ms) (cutA s).data.toList n).bind fun i => (fst? (exNm (ms.getD i zMd).es) (cutB s).data.toList (ms.getD i zMd).en).map fun k => (i, k) else none
def rsv (n : Nat) (ms : List Md) (s : ByteArray) : Value :=
  match rsT n ms s with
  | some (i, k) => .tuple #[.agg #[.int .i64 i, .int .i64 ((ms.getD i zMd).es.getD k zE).2.1, .int .i64 ((ms.getD i zMd).es.getD k zE).2.2], .bool true]
  | none => .tuple #[.agg #[.int .i64 0, .int .i64 0, .int .i64 0], .bool false]
end Go.Proofs.YtngdgogjlpjjpaeGreat
