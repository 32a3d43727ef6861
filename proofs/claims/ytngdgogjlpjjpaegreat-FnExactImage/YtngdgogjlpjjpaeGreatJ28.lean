import Derived.Test.YtngdgogjlpjjpaeGreatJ27
import Derived.Deep.RegionLaw
import Derived.Deep.AppendLies
namespace Go.Proofs.YtngdgogjlpjjpaeGreat
open Go.RowKit
set_option linter.unusedVariables false
set_option linter.unusedSimpArgs false
set_option maxRecDepth 100000

/-- addresses one behind the other -/
def bkx (P : PMod) (x : Int) (k : Nat) : List Int := (List.range k).map fun j => x + fsum P j
theorem bkx_len (P : PMod) (x : Int) (k : Nat) : (bkx P x k).length = k := by simp [bkx]
theorem bkx_succ (P : PMod) (x : Int) (k : Nat) : bkx P x (k + 1) = bkx P x k ++ [x + fsum P k] := by simp [bkx, List.range_succ]

set_option maxHeartbeats 4000000 in
theorem placeAll_any (g : Nat) (x : Int) (P : PMod) (ba : Option Addr) (bc : Nat) (bl : List Bk) (w0 w : World) (h : Blk w g #[.int .i64 x, .func (.func 187) #[] #[]] 266) (hP : mdoP P = 0) (hx0 : 0 ≤ x) (hx1 : x ≤ 900000) (hB : Below w0.heap.size w0 w) (hg : w0.heap.size ≤ g) (hb : BKS w0 ba P.bl.length bc bl) (hlen : ∀ j, j < P.bl.length → (bl.getD j zB).2.1 = (P.bl.getD j []).length) :
    Calls Tryz.prog 231 #[.pointer (some ⟨g, 0, none⟩), .slice ba P.bl.length bc] w fun e w' => ∃ a' c', e = .returned (.slice a' P.bl.length c') ∧ OG 3 1 clI w' w.heap.size (.slice a' P.bl.length c') (bkx P x P.bl.length) ∧ Blk w' g #[.int .i64 (x + fsum P P.bl.length), .func (.func 187) #[] #[]] 266 ∧ Turn (fun j => j = g) w w' := by
  obtain ⟨iI, hiI, hz0, hz1, hz2⟩ := info_parts infoI
  obtain ⟨_, _, _, vb, _, _, _, vbk⟩ := vld_en hP
  have HFS := hide (fun k hk => fsum_range hP k hk)
  have HBB := hide (fun (W : World) (t : Turn (fun j => j = g) w W) => hb.below (below_turn hB t (fun j hj => by have e : j = g := hj; omega) hB.size))
  have HLEN := hide hlen
  have hgl := h.lt
  have HH := hide h
  clear h hb hlen hB hP
  go_enter Tryz.func231, Tryz.ntmps231
  go_wp2
  go_loopw [5, 10] (fun v i wr => ∃ (q : Nat) (a' : Option Addr) (c' : Nat), q ≤ P.bl.length ∧ i = .int .i64 q ∧ v = .slice a' q c' ∧ OG 3 1 clI wr w.heap.size (.slice a' q c') (bkx P x q) ∧ Blk wr g #[.int .i64 (x + fsum P q), .func (.func 187) #[] #[]] 266 ∧ Turn (fun j => j = g) w wr) (fun _ i _ => P.bl.length - (intOf i).toNat)
  case atStart => exact ⟨0, none, 0, Nat.zero_le _, rfl, rfl, og_nil _ _ _ _ _, by have := HH.out; rw [show x + fsum P 0 = x by simp [fsum]]; exact this, Turn.refl _ _⟩
  case round =>
    obtain ⟨q, a', c', hq, rfl, rfl, O, B, T⟩ := hrel
    by_cases hlt : q < P.bl.length
    · have hlt' : (q : Int) < (P.bl.length : Int) := by omega
      obtain ⟨_, _, hcb, _, _⟩ := HBB.out wr T
      obtain ⟨b2, off2, rfl, hc⟩ := hcb (by omega)
      have cb := hc q hlt
      rw [HLEN.out q hlt] at cb
      have hLq := vbk q hlt
      obtain ⟨LQ, hLQ⟩ : ∃ LQ, LQ = (P.bl.getD q []).length := ⟨_, rfl⟩
      rw [← hLQ] at cb hLq
      have rq := HFS.out q (by omega)
      have HFE := hide (show x + fsum P q + rnd (4 * (LQ : Int)) = x + fsum P (q + 1) by rw [hLQ]; show _ = x + (fsum P q + rnd (4 * ((P.bl.getD q []).length : Int))); omega)
      have HSU := hide (bkx_succ P x q)
      obtain ⟨xq, hxq⟩ : ∃ xq, xq = x + fsum P q := ⟨_, rfl⟩
      rw [← hxq] at HFE HSU B
      have rxq : 0 ≤ xq ∧ xq ≤ 1000000 := by omega
      generalize bl.getD q zB = bq at cb
      obtain ⟨bq1, bq2, bq3, bq4⟩ := bq
      dsimp only at cb
      have HPL := hide (placeS_any g xq bq1 LQ bq3 wr B (by omega) (by omega) (by omega))
      have HQ := hide (And.intro O T)
      clear hcb hc hLQ hxq O B T
      go_wp2_with fail
      refine HPL.out.mono ?_
      rintro e w1 ⟨rfl, B1, T1⟩
      obtain ⟨O, T⟩ := HQ.out
      have O1 := O.turn T1 (fun j hj => by have e : j = g := hj; omega)
      have T2 := T.trans T1
      have al : Below w1.heap.size w1 (w1.alloc (.cells #[.int .i64 xq] 3)) := (Below.refl _ _).alloc (Nat.le_refl _) _
      have HOW := hide (show (w1.alloc (.cells #[.int .i64 xq] 3)).ownsRow w.heap.size 3 1 (.slice a' q c') q ((bkx P x q).flatMap clI) by have := O1.below al; unfold OG at this; rw [bkx_len] at this; exact this)
      have hs1 := T2.size
      have HR := hide (And.intro (O1.below al) (And.intro (B1.below al) (T2.trans (turn_below al))))
      clear O T O1 T2 al B1 T1 HPL HQ cb
      go_wp2_with (at_builtin; refine wpList_append_own _ rfl _ _ 24 rfl w.heap.size 3 iI (.int .i64 0) 1 8 Tryz.underlying24 hiI hz0 hz1 hz2 rfl (by decide) (.slice a' q c') q ((bkx P x q).flatMap clI) rfl HOW.out ⟨w1.heap.size, 0, none⟩ 1 1 (clI xq) rfl rfl (cells_new w1 _ _ (clI xq) rfl) (by intro u hu; simp [clI] at hu; subst hu; rfl) (by unfold maxLen; omega) (by omega) (by simp; omega) ?_; intro v' w4 hown hgr _)
      obtain ⟨O1, B1, T1⟩ := HR.out
      have hrow : ∀ j, (Value.slice a' q c').ownBlock = some j → w.heap.size ≤ j := fun j hj => (O1.lt j hj).1
      have O4 : OG 3 1 clI w4 w.heap.size v' (bkx P x (q + 1)) := by
        unfold OG
        rw [bkx_len, HSU.out, List.flatMap_append, List.flatMap_singleton]
        exact hown
      have B4 := blk_grown B1 hgr (fun e => by have := hrow _ e.symm; omega)
      have T4 := turn_grown T1 hgr hrow
      obtain ⟨a4, c4, rfl⟩ := og_shape O4
      rw [bkx_len] at O4
      have HX := hide (And.intro O4 (And.intro B4 T4))
      have HL := hide (bkx_len P x (q + 1))
      clear O1 B1 T1 hrow O4 B4 T4 hown hgr HR HOW
      go_roundw
      case rel => exact ⟨q + 1, a4, c4, by omega, by go_num, by rw [HL.out], HX.out.1, by rw [← HFE.out]; exact HX.out.2.1, HX.out.2.2⟩
      case measure => simp [intOf]; omega
    · have hlt' : ¬ (q : Int) < (P.bl.length : Int) := by omega
      have e : q = P.bl.length := by omega
      rw [e] at O B
      have HX := hide (And.intro O (And.intro B T))
      have HE := hide e
      clear O B T e
      go_wp2
      go_ret
      exact ⟨a', c', by rw [← HE.out]; rfl, HX.out.1, HX.out.2.1, HX.out.2.2⟩
end Go.Proofs.YtngdgogjlpjjpaeGreat

namespace Go.Proofs.YtngdgogjlpjjpaeGreat
open Go.RowKit
set_option linter.unusedVariables false
set_option linter.unusedSimpArgs false
set_option maxRecDepth 100000

/-- heads that were made at once, a row each -/
structure Tf (w : World) (base g n : Nat) (f : Nat → TB) : Prop where
  head : ∃ cs, Blk w g cs 189 ∧ cs.size = n ∧ ∀ i, i < n → cs[i]? = some (svT (f i))
  rows : ∀ i, i < n → OG 71 3 clG w base (svT (f i)) (f i).1
  apart : ∀ i j, i < n → j < n → i ≠ j → ∀ k, (svT (f i)).ownBlock = some k → (svT (f j)).ownBlock ≠ some k
theorem Tf.below {w w' : World} {base g n : Nat} {f : Nat → TB} (h : Tf w base g n f) (hb : Below w.heap.size w w') : Tf w' base g n f :=
  ⟨by obtain ⟨cs, h1, h2, h3⟩ := h.head; exact ⟨cs, h1.below hb, h2, h3⟩, fun i hi => (h.rows i hi).below hb, h.apart⟩
theorem Tf.cell {w : World} {base g n : Nat} {f : Nat → TB} (h : Tf w base g n f) (i : Nat) (hi : i < n) : w.cell? ⟨g, i, none⟩ = some (svT (f i)) ∧ w.frozen? ⟨g, i, none⟩ = false := by
  obtain ⟨cs, h1, h2, h3⟩ := h.head
  exact ⟨(h1.cell i).trans (h3 i hi), h1.frozen i⟩
theorem Tf.lt {w : World} {base g n : Nat} {f : Nat → TB} (h : Tf w base g n f) : g < w.heap.size ∧ ∀ i, i < n → ∀ k, (svT (f i)).ownBlock = some k → base ≤ k ∧ k < w.heap.size := by
  obtain ⟨cs, h1, _⟩ := h.head
  exact ⟨h1.lt, fun i hi => (h.rows i hi).lt⟩
/-- one row grown, its head laid anew -/
theorem Tf.update {W W' : World} {base g n m : Nat} {f : Nat → TB} {x : TB} {g4 c4 : Nat} (h : Tf W base g n f) (hm : m < n) (hg : W.grownBy W' (svT (f m)).ownBlock) (hx : OG 71 3 clG W' base (svT x) x.1) (hs : svT x = .slice (some ⟨g4, 0, none⟩) x.1.length c4) (hat : (svT (f m)).ownBlock = some g4 ∨ g4 = W.heap.size) : Tf (W'.setCell ⟨g, m, none⟩ (svT x)) base g n (fun i => if i = m then x else f i) := by
  obtain ⟨cs, h1, h2, h3⟩ := h.head
  have hk : ∀ k, (svT (f m)).ownBlock = some k → k ≠ g := fun k hk e => by subst e; exact kind_no (h.rows m hm) hk h1 (by decide)
  have hb : Blk W' g cs 189 := blk_grown h1 hg (fun e => hk g e.symm rfl)
  have tx := turn_set W' g m (svT x)
  have hng : ∀ (u : Value) (ys : List Tg), OG 71 3 clG W' base u ys → ∀ k, u.ownBlock = some k → ¬ (fun j => j = g) k := fun u ys ho k hk' e => by
    have e' : k = g := e
    subst e'
    exact kind_no ho hk' hb (by decide)
  refine ⟨⟨cs.setIfInBounds m (svT x), hb.set m (svT x), by simp [h2], fun i hi => ?_⟩, fun i hi => ?_, fun i j hi hj hij k hk1 => ?_⟩
  · by_cases e : i = m
    · subst e; simp [h2, hi]
    · simp only [e, if_false]
      rw [Array.getElem?_setIfInBounds_ne (fun e' => e e'.symm)]
      exact h3 i hi
  · by_cases e : i = m
    · simp only [e, if_true]
      exact hx.kept tx (hng _ _ hx)
    · simp only [e, if_false]
      have o := (h.rows i hi).kept' hg (fun k hk' e' => h.apart i m hi hm e k hk' e')
      exact o.kept tx (hng _ _ o)
  · have hx4 : (svT x).ownBlock = some g4 := by rw [hs]; rfl
    by_cases e1 : i = m
    · have e2 : ¬ j = m := fun e => hij (e1.trans e.symm)
      simp only [e1, e2, if_true, if_false] at hk1 ⊢
      rw [hx4] at hk1
      simp at hk1
      subst hk1
      rcases hat with h5 | h5
      · exact fun e => h.apart m j hm hj (fun e' => e2 e'.symm) g4 h5 e
      · exact fun e => by have := (h.lt.2 j hj g4 e).2; omega
    · by_cases e2 : j = m
      · simp only [e1, e2, if_true, if_false] at hk1 ⊢
        rw [hx4]
        intro e
        simp at e
        subst e
        rcases hat with h5 | h5
        · exact h.apart i m hi hm e1 g4 hk1 h5
        · have := (h.lt.2 i hi g4 hk1).2; omega
      · simp only [e1, e2, if_false] at hk1 ⊢
        exact h.apart i j hi hj hij k hk1
theorem made_rows {w : World} {base g n : Nat} (h : w.ownsRow base 189 1 (.slice (some ⟨g, 0, none⟩) n n) n (madeCells (Value.cells (.slice none 0 0)) (n * 1)).toList) (lo : Nat) : Tf w lo g n (fun _ => ([], none, 0)) := by
  obtain ⟨hl, h | ⟨g', cap, cur, hv, hb, hh, h1, h2, h3, h4⟩⟩ := h
  · simp at h
  · simp at hv
    obtain ⟨rfl, rfl⟩ := hv
    have e : cur.toList = (madeCells (Value.cells (.slice none 0 0)) (n * 1)).toList := by
      rw [← h4, List.take_of_length_le (by simp [h3])]
    have e2 : cur = madeCells (Value.cells (.slice none 0 0)) (n * 1) := Array.toList_inj.1 e
    refine ⟨⟨cur, hh, by simpa using h3, fun i hi => ?_⟩, fun i hi => og_nil _ _ _ _ _, fun i j _ _ _ k hk => by simp [svT, Value.ownBlock] at hk⟩
    rw [e2]
    simp [madeCells, Value.cells, svT, hi, Nat.mod_one]
/-- the heads as a row -/
theorem Tf.otg {w : World} {base g n c : Nat} {f : Nat → TB} (h : Tf w base g n f) (hg : base ≤ g) (hn : n ≤ maxLen) (hc : c = n) : OTg w base base (.slice (some ⟨g, 0, none⟩) ((List.range n).map f).length c) ((List.range n).map f) := by
  subst hc
  obtain ⟨cs, h1, h2, h3⟩ := h.head
  refine ⟨⟨?_, .inr ⟨g, c, cs, by simp, hg, h1, by simp, hn, by simpa using h2, ?_⟩⟩, fun x hx => ?_, ?_⟩
  · rw [show ((List.range c).map f).flatMap clTB = (List.range c).map (fun i => svT (f i)) by rw [List.flatMap_map]; exact flat_one _ _]
    simp
  · apply List.ext_getElem?
    intro i
    rw [show ((List.range c).map f).flatMap clTB = (List.range c).map (fun i => svT (f i)) by rw [List.flatMap_map]; exact flat_one _ _]
    by_cases hi : i < c
    · rw [List.getElem?_take, if_pos (by simpa using hi), Array.getElem?_toList, h3 i hi]
      simp [hi]
    · rw [List.getElem?_eq_none (by simp; omega), List.getElem?_eq_none (by simp; omega)]
  · simp at hx
    obtain ⟨i, hi, rfl⟩ := hx
    exact h.rows i hi
  · rw [List.pairwise_iff_getElem]
    intro i j hi hj hij k hk
    simp at hi hj hk ⊢
    exact h.apart i j hi hj (by omega) k hk
end Go.Proofs.YtngdgogjlpjjpaeGreat
