import Derived.Test.YtngdgogjlpjjpacK44
namespace Go.Proofs.Ytngdgogjlpjjpac
open Go.RowKit
set_option linter.unusedVariables false
set_option linter.unusedSimpArgs false
set_option maxRecDepth 100000

def set8 (w : World) (g o : Nat) (m : Md) : World := ((((((((w.setCell ⟨g, o, none⟩ (.string m.nm)).setCell ⟨g, o + 1, none⟩ (.slice m.ta m.tn m.tc)).setCell ⟨g, o + 2, none⟩ (.slice m.ba m.bn m.bc)).setCell ⟨g, o + 3, none⟩ (.slice m.da m.dn m.dc)).setCell ⟨g, o + 4, none⟩ (.int .i64 m.bss)).setCell ⟨g, o + 5, none⟩ (.slice m.ra m.rn m.rc)).setCell ⟨g, o + 6, none⟩ (.slice m.ia m.im m.ic)).setCell ⟨g, o + 7, none⟩ (.slice m.ea m.en m.ec))
theorem set8_other (w : World) (g o b o' : Nat) (m : Md) (h : b ≠ g ∨ o' < o ∨ o + 8 ≤ o') : (set8 w g o m).cell? ⟨b, o', none⟩ = w.cell? ⟨b, o', none⟩ := by
  unfold set8
  rw [cellO (by omega), cellO (by omega), cellO (by omega), cellO (by omega), cellO (by omega), cellO (by omega), cellO (by omega), cellO (by omega)]
theorem set8_at {w : World} {g o : Nat} {q : Md} (h : At8 w g o q) (m : Md) : At8 (set8 w g o m) g o m := by
  obtain ⟨h0, h1, h2, h3, h4, h5, h6, h7⟩ := h
  unfold set8
  refine ⟨?_, ?_, ?_, ?_, ?_, ?_, ?_, ?_⟩
  · rw [cellO (by omega), cellO (by omega), cellO (by omega), cellO (by omega), cellO (by omega), cellO (by omega), cellO (by omega)]; exact cellS (u := _) (by exact h0)
  · rw [cellO (by omega), cellO (by omega), cellO (by omega), cellO (by omega), cellO (by omega), cellO (by omega)]; exact cellS (u := _) (by rw [cellO (by omega)]; exact h1)
  · rw [cellO (by omega), cellO (by omega), cellO (by omega), cellO (by omega), cellO (by omega)]; exact cellS (u := _) (by rw [cellO (by omega), cellO (by omega)]; exact h2)
  · rw [cellO (by omega), cellO (by omega), cellO (by omega), cellO (by omega)]; exact cellS (u := _) (by rw [cellO (by omega), cellO (by omega), cellO (by omega)]; exact h3)
  · rw [cellO (by omega), cellO (by omega), cellO (by omega)]; exact cellS (u := _) (by rw [cellO (by omega), cellO (by omega), cellO (by omega), cellO (by omega)]; exact h4)
  · rw [cellO (by omega), cellO (by omega)]; exact cellS (u := _) (by rw [cellO (by omega), cellO (by omega), cellO (by omega), cellO (by omega), cellO (by omega)]; exact h5)
  · rw [cellO (by omega)]; exact cellS (u := _) (by rw [cellO (by omega), cellO (by omega), cellO (by omega), cellO (by omega), cellO (by omega), cellO (by omega)]; exact h6)
  · exact cellS (u := _) (by rw [cellO (by omega), cellO (by omega), cellO (by omega), cellO (by omega), cellO (by omega), cellO (by omega), cellO (by omega)]; exact h7)
theorem set8_far {w : World} {g o b o' : Nat} {q : Md} (h : At8 w b o' q) (m : Md) (hf : b ≠ g ∨ o' + 8 ≤ o ∨ o + 8 ≤ o') : At8 (set8 w g o m) b o' q := by
  unfold At8
  rw [set8_other _ _ _ _ _ _ (by omega), set8_other _ _ _ _ _ _ (by omega), set8_other _ _ _ _ _ _ (by omega), set8_other _ _ _ _ _ _ (by omega), set8_other _ _ _ _ _ _ (by omega), set8_other _ _ _ _ _ _ (by omega), set8_other _ _ _ _ _ _ (by omega), set8_other _ _ _ _ _ _ (by omega)]
  exact h
theorem set8_blk {w : World} {g : Nat} {cur : Array Value} {t : TypeId} (h : Blk w g cur t) (o : Nat) (m : Md) : ∃ cur', Blk (set8 w g o m) g cur' t ∧ cur'.size = cur.size :=
  ⟨_, ((((((((h.set (o) _).set (o + 1) _).set (o + 2) _).set (o + 3) _).set (o + 4) _).set (o + 5) _).set (o + 6) _).set (o + 7) _), by simp⟩
theorem set8_below {B : Nat} {a w : World} (h : Below B a w) {g : Nat} (hg : B ≤ g) (o : Nat) (m : Md) : Below B a (set8 w g o m) :=
  ((((((((h.setCell (p := ⟨g, o, none⟩) hg _).setCell (p := ⟨g, o + 1, none⟩) hg _).setCell (p := ⟨g, o + 2, none⟩) hg _).setCell (p := ⟨g, o + 3, none⟩) hg _).setCell (p := ⟨g, o + 4, none⟩) hg _).setCell (p := ⟨g, o + 5, none⟩) hg _).setCell (p := ⟨g, o + 6, none⟩) hg _).setCell (p := ⟨g, o + 7, none⟩) hg _)
theorem set8_turn (c : Nat) (w : World) (g o : Nat) (m : Md) (h : g ≤ c) : Turn (fun j => j ≤ c) w (set8 w g o m) :=
  ((((((((turn_at c w g o _ h).trans (turn_at c _ g (o + 1) _ h)).trans (turn_at c _ g (o + 2) _ h)).trans (turn_at c _ g (o + 3) _ h)).trans (turn_at c _ g (o + 4) _ h)).trans (turn_at c _ g (o + 5) _ h)).trans (turn_at c _ g (o + 6) _ h)).trans (turn_at c _ g (o + 7) _ h))
/-- m' is a copy of m in rows of its own behind block c. -/
def CopyOf (c : Nat) (m m' : Md) (W : World) : Prop := ∃ g1 g2 g3 g5 g6 g7 gs, m' = ⟨m.nm, some ⟨g1, 0, none⟩, m.tn, m.tn, m.tz, some ⟨g2, 0, none⟩, m.bn, m.bn, reb gs m.bl, some ⟨g3, 0, none⟩, m.dn, m.dn, m.dz, m.bss, some ⟨g5, 0, none⟩, m.rn, m.rn, m.rz, some ⟨g6, 0, none⟩, m.im, m.im, m.ss, some ⟨g7, 0, none⟩, m.en, m.en, m.es⟩ ∧ c < g1 ∧ g1 < g2 ∧ g2 < g3 ∧ g3 < g5 ∧ g5 < g6 ∧ g6 < g7 ∧ gs.length = m.bn ∧ RowI W g1 m.tz ∧ RowB W g2 m.bn gs m.bl ∧ Row8 W g3 m.dz ∧ RowI W g5 m.rz ∧ RowT W g6 m.ss ∧ RowX W g7 m.es
theorem copy_stab (c : Nat) (m m' : Md) : Stab c (CopyOf c m m') := fun W W' t h => by
  obtain ⟨g1, g2, g3, g5, g6, g7, gs, e, l1, l2, l3, l4, l5, l6, hg, r1, r2, r3, r5, r6, r7⟩ := h
  have key : RowB W' g2 m.bn gs m.bl := by
    obtain ⟨⟨cur, h2, h3⟩, h4, h5⟩ := r2
    exact ⟨⟨cur, turn_blk t h2 (by show ¬ g2 ≤ c; omega), h3⟩, fun i hi => ⟨turn_blk t (h4 i hi).1 (by show ¬ gs.getD i 0 ≤ c; have := (h4 i hi).2; omega), (h4 i hi).2⟩, h5⟩
  exact ⟨g1, g2, g3, g5, g6, g7, gs, e, l1, l2, l3, l4, l5, l6, hg, stab_i (by omega) W W' t r1, key, stab_8 (by omega) W W' t r3, stab_i (by omega) W W' t r5, stab_t (by omega) W W' t r6, stab_x (by omega) W W' t r7⟩
theorem copy_below {c : Nat} {m m' : Md} {W W' : World} (h : CopyOf c m m' W) (hb : Below W.heap.size W W') : CopyOf c m m' W' := copy_stab c m m' W W' (turn_below hb) h
theorem copy_mt {c : Nat} {m m' : Md} {w W : World} (hm : m.mt w) (h : CopyOf c m m' W) : m'.mt W := by
  obtain ⟨g1, g2, g3, g5, g6, g7, gs, rfl, _, _, _, _, _, _, hg, r1, r2, r3, r5, r6, r7⟩ := h
  exact mt_of_rows hm hg r1 r2 r3 r5 r6 r7
/-- A ROW OF COPIES: the first ms'.length of n. -/
def RowM (W : World) (c n : Nat) (ms ms' : List Md) : Prop :=
  (∃ cur, Blk W c cur 56 ∧ cur.size = n * 8) ∧ (∀ i, i < n → ∃ q, At8 W c (i * 8) q) ∧ ∀ i, i < ms'.length → At8 W c (i * 8) (ms'.getD i zMd) ∧ CopyOf c (ms.getD i zMd) (ms'.getD i zMd) W
theorem RowM.below {W W' : World} {c n : Nat} {ms ms' : List Md} (h : RowM W c n ms ms') (hb : Below W.heap.size W W') : RowM W' c n ms ms' := by
  obtain ⟨⟨cur, hc, hs⟩, hq, hr⟩ := h
  exact ⟨⟨cur, hc.below hb, hs⟩, fun i hi => by obtain ⟨q, h⟩ := hq i hi; exact ⟨q, h.below hb⟩, fun i hi => ⟨(hr i hi).1.below hb, copy_below (hr i hi).2 hb⟩⟩
theorem getM_lt (ms : List Md) (x : Md) (i : Nat) (h : i < ms.length) : (ms ++ [x]).getD i zMd = ms.getD i zMd := by
  simp [List.getD_eq_getElem?_getD, List.getElem?_append_left h]
theorem getM_last (ms : List Md) (x : Md) : (ms ++ [x]).getD ms.length zMd = x := by
  simp [List.getD_eq_getElem?_getD]
theorem RowM.push {W : World} {c n : Nat} {ms ms' : List Md} (h : RowM W c n ms ms') (hk : ms'.length < n) (x : Md) (hx : CopyOf c (ms.getD ms'.length zMd) x W) : RowM (set8 W c (ms'.length * 8) x) c n ms (ms' ++ [x]) := by
  obtain ⟨⟨cur, hc, hs⟩, hq, hr⟩ := h
  obtain ⟨cur', hc', hs'⟩ := set8_blk hc (ms'.length * 8) x
  have T := set8_turn c W c (ms'.length * 8) x (Nat.le_refl _)
  refine ⟨⟨cur', hc', by rw [hs', hs]⟩, fun i hi => ?_, fun i hi => ?_⟩
  · obtain ⟨q, h⟩ := hq i hi
    by_cases e : i = ms'.length
    · subst e; exact ⟨x, set8_at h x⟩
    · exact ⟨q, set8_far h x (by omega)⟩
  · simp only [List.length_append, List.length_cons, List.length_nil] at hi
    by_cases e : i = ms'.length
    · subst e
      rw [getM_last]
      obtain ⟨q, h⟩ := hq _ hk
      exact ⟨set8_at h x, copy_stab _ _ _ _ _ T hx⟩
    · rw [getM_lt _ _ _ (by omega)]
      exact ⟨set8_far (hr i (by omega)).1 x (by omega), copy_stab _ _ _ _ _ T (hr i (by omega)).2⟩
theorem infoM : (Try.prog.info? 56).map (fun i => (i.zero, i.size, i.bytes)) = some (some (.agg #[.string ⟨#[]⟩, .slice none 0 0, .slice none 0 0, .slice none 0 0, .int .i64 0, .slice none 0 0, .slice none 0 0, .slice none 0 0]), 8, 168) := by kernel_rfl
theorem rowM_of_made {w : World} {base g n : Nat} {ms : List Md} (h : w.ownsRow base 56 8 (.slice (some ⟨g, 0, none⟩) n n) n (madeCells (Value.cells (.agg #[.string ⟨#[]⟩, .slice none 0 0, .slice none 0 0, .slice none 0 0, .int .i64 0, .slice none 0 0, .slice none 0 0, .slice none 0 0])) (n * 8)).toList) : RowM w g n ms [] := by
  obtain ⟨hl, h | ⟨g', cap, cur, hv, hb, hh, h1, h2, h3, h4⟩⟩ := h
  · simp at h
  · simp at hv
    obtain ⟨rfl, rfl⟩ := hv
    have e : cur.toList = (madeCells (Value.cells (.agg #[.string ⟨#[]⟩, .slice none 0 0, .slice none 0 0, .slice none 0 0, .int .i64 0, .slice none 0 0, .slice none 0 0, .slice none 0 0])) (n * 8)).toList := by
      rw [← h4, List.take_of_length_le (by simp [h3])]
    have e2 : cur = madeCells (Value.cells (.agg #[.string ⟨#[]⟩, .slice none 0 0, .slice none 0 0, .slice none 0 0, .int .i64 0, .slice none 0 0, .slice none 0 0, .slice none 0 0])) (n * 8) := Array.toList_inj.1 e
    have hB : Blk w g cur 56 := hh
    refine ⟨⟨cur, hB, by simp [h3]⟩, fun i hi => ⟨zMd, ?_⟩, fun i hi => by simp at hi⟩
    have hcell : ∀ j, j < 8 → w.cell? ⟨g, i * 8 + j, none⟩ = #[Value.string ⟨#[]⟩, .slice none 0 0, .slice none 0 0, .slice none 0 0, .int .i64 0, .slice none 0 0, .slice none 0 0, .slice none 0 0][j]? := by
      intro j hj
      rw [hB.cell, e2]
      have hm : (i * 8 + j) % 8 = j := by omega
      simp [madeCells, Value.cells, show i * 8 + j < n * 8 by omega, hm]
      match j, hj with
      | 0, _ => rfl
      | 1, _ => rfl
      | 2, _ => rfl
      | 3, _ => rfl
      | 4, _ => rfl
      | 5, _ => rfl
      | 6, _ => rfl
      | 7, _ => rfl
    exact ⟨hcell 0 (by omega), hcell 1 (by omega), hcell 2 (by omega), hcell 3 (by omega), hcell 4 (by omega), hcell 5 (by omega), hcell 6 (by omega), hcell 7 (by omega)⟩

set_option maxHeartbeats 2000000 in
theorem toModuleS_any (a : Option Addr) (n cap : Nat) (ms : List Md) (w : World) (h : MS w a n cap ms) (hn : n ≤ 1048576) (hs : ∀ i, i < n → (ms.getD i zMd).size ≤ 1048576) :
    Calls Try.prog 19 #[.slice a n cap] w fun e w' => e = .returned (.slice (some ⟨w.heap.size, 0, none⟩) n n) ∧ (∃ ms', ms'.length = n ∧ RowM w' w.heap.size n ms ms') ∧ Below w.heap.size w w' := by
  obtain ⟨i0, hi, hz0, hz1, hz2⟩ := info_parts infoM
  go_enter Try.func19, Try.ntmps19
  go_wp2_with (at_make; refine wpList_make_full _ rfl _ _ 41 rfl w.heap.size 56 i0 (.agg #[.string ⟨#[]⟩, .slice none 0 0, .slice none 0 0, .slice none 0 0, .int .i64 0, .slice none 0 0, .slice none 0 0, .slice none 0 0]) 8 Try.underlying41 hi hz0 hz1 .i64 .i64 _ _ n rfl rfl rfl rfl (by rw [hz2]; omega) (by unfold maxLen; omega) (Nat.le_refl _) ?_; intro w1 hown hgr)
  have hrow : RowM w1 w.heap.size n ms [] := rowM_of_made hown
  have hbel := below_grown hgr
  clear hown hgr hi hz0 hz1 hz2
  go_loopw [4] (fun i wr => ∃ k : Nat, k ≤ n ∧ i = .int .i64 k ∧ (∃ ms', ms'.length = k ∧ RowM wr w.heap.size n ms ms') ∧ Below w.heap.size w wr) (fun i _ => n - (intOf i).toNat)
  case atStart => exact ⟨0, Nat.zero_le _, rfl, ⟨[], rfl, hrow⟩, hbel⟩
  case round =>
    obtain ⟨k, hk, rfl, ⟨ms', hl, hR⟩, hB⟩ := hrel
    clear hrow hbel
    by_cases hlt : k < n
    · have hlt' : (k : Int) < (n : Int) := by omega
      obtain ⟨b, off, rfl, y0, y1, y2, y3, y4, y5, y6, y7⟩ := (h.below hB).at k hlt
      have HT := hide ((h.below hB).2.2.2.1 k hlt)
      have hsk := hs k hlt
      have HP := hide (fun (W : World) (x : Md) (hW : Below wr.heap.size wr W) (hx : CopyOf w.heap.size (ms.getD k zMd) x W) => by
        have hp := (hR.below hW).push (by omega) x (by rw [hl]; exact hx)
        rw [hl] at hp
        exact hp)
      have HF := hide (fun (W : World) (hW : Below wr.heap.size wr W) => show (∃ q, At8 W w.heap.size (k * 8) q) ∧ ∀ i, W.frozen? ⟨w.heap.size, i, none⟩ = false from ⟨(hR.below hW).2.1 k hlt, by obtain ⟨⟨cur, hc, _⟩, _⟩ := hR.below hW; exact hc.frozen⟩)
      have hcl : w.heap.size < wr.heap.size := by obtain ⟨⟨cur, hc, _⟩, _⟩ := hR; exact hc.lt
      clear hR
      generalize ms.getD k zMd = m at *
      obtain ⟨nm, ta, tn, tc, tz, ba, bn, bc, bl, da, dn, dc, dz, bss, ra, rn, rc, rz, ia, im, ic, ss, ea, en, ec, es⟩ := m
      dsimp only at y0 y1 y2 y3 y4 y5 y6 y7
      have HS := hide (toModule_any nm ta tn tc tz ba bn bc bl da dn dc dz bss ra rn rc rz ia im ic ss ea en ec es wr HT.out hsk)
      clear hsk
      go_wp2_with fail
      refine HS.out.mono ?_
      rintro e w2 ⟨g1, g2, g3, g5, g6, g7, rfl, l1, l2, l3, l4, l5, l6, r1, ⟨gs, hg, r2⟩, r3, r5, r6, r7, hb2⟩
      have HX := hide (HP.out w2 ⟨nm, some ⟨g1, 0, none⟩, tn, tn, tz, some ⟨g2, 0, none⟩, bn, bn, reb gs bl, some ⟨g3, 0, none⟩, dn, dn, dz, bss, some ⟨g5, 0, none⟩, rn, rn, rz, some ⟨g6, 0, none⟩, im, im, ss, some ⟨g7, 0, none⟩, en, en, es⟩ hb2 ⟨g1, g2, g3, g5, g6, g7, gs, rfl, by omega, l2, l3, l4, l5, l6, hg, r1, r2, r3, r5, r6, r7⟩)
      obtain ⟨⟨q, p0, p1, p2, p3, p4, p5, p6, p7⟩, hfz⟩ := HF.out w2 hb2
      have HB2 := hide (set8_below (hB.trans (hb2.mono hB.size)) (Nat.le_refl w.heap.size) (k * 8) ⟨nm, some ⟨g1, 0, none⟩, tn, tn, tz, some ⟨g2, 0, none⟩, bn, bn, reb gs bl, some ⟨g3, 0, none⟩, dn, dn, dz, bss, some ⟨g5, 0, none⟩, rn, rn, rz, some ⟨g6, 0, none⟩, im, im, ss, some ⟨g7, 0, none⟩, en, en, es⟩)
      clear HP HF HS HT y0 y1 y2 y3 y4 y5 y6 y7 r1 r2 r3 r5 r6 r7 hb2 hB
      go_wp2
      go_roundw
      case rel => exact ⟨k + 1, by omega, by go_num, ⟨_, by rw [List.length_append, hl]; rfl, HX.out⟩, HB2.out⟩
      case measure => simp [intOf]; omega
    · have e : Hid (k = n) := by show k = n; omega
      go_wp2
      go_ret
      exact ⟨rfl, ⟨ms', by rw [hl, e.out], hR⟩, hB⟩
end Go.Proofs.Ytngdgogjlpjjpac
