import Derived.Test.YtngdgogjlpjjpaeGreatGa24
import Derived.Test.YtngdgogjlpjjpaeGreatGa10
namespace Go.Proofs.YtngdgogjlpjjpaeGreat
open Go.RowKit
set_option linter.unusedVariables false
set_option linter.unusedSimpArgs false
set_option maxRecDepth 100000

theorem flat_setX : ∀ (xs : List Ex) (i : Nat) (x : Ex), i < xs.length → (((xs.flatMap clX).set (i * 3) (.string x.1)).set (i * 3 + 1) (.int .i64 x.2.1)).set (i * 3 + 2) (.int .i64 x.2.2) = (xs.set i x).flatMap clX
  | [], i, x, h => by simp at h
  | y :: ys, 0, x, h => by simp [clX]
  | y :: ys, i + 1, x, h => by
    have ih := flat_setX ys i x (by simpa using h)
    rw [show (i + 1) * 3 = i * 3 + 1 + 1 + 1 by omega]
    simp only [List.flatMap_cons, clX, List.cons_append, List.nil_append, List.set_cons_succ]
    rw [← ih]
theorem ogX_set {w : World} {base g n c : Nat} {xs : List Ex} (h : OG 207 3 clX w base (.slice (some ⟨g, 0, none⟩) n c) xs) (i : Nat) (hi : i < n) (s : ByteArray) (p q : Int) : OG 207 3 clX (((w.setCell ⟨g, i * 3, none⟩ (.string s)).setCell ⟨g, i * 3 + 1, none⟩ (.int .i64 p)).setCell ⟨g, i * 3 + 2, none⟩ (.int .i64 q)) base (.slice (some ⟨g, 0, none⟩) n c) (xs.set i (s, p, q)) := by
  obtain ⟨hl, ⟨h0, _⟩ | ⟨g', cap', cur, hv, hg, hh, h1, h2, h3, h4⟩⟩ := h
  · simp at h0
  · simp at hv
    obtain ⟨rfl, rfl, rfl⟩ := hv
    refine ⟨?_, .inr ⟨g, c, ((cur.setIfInBounds (i * 3) (.string s)).setIfInBounds (i * 3 + 1) (.int .i64 p)).setIfInBounds (i * 3 + 2) (.int .i64 q), by simp, hg, Blk.set (Blk.set (Blk.set (w := w) hh _ _) _ _) _ _, by simpa using h1, h2, by simpa using h3, ?_⟩⟩
    · rw [← flat_setX xs i (s, p, q) hi]
      simpa using hl
    · rw [List.length_set, Array.toList_setIfInBounds, Array.toList_setIfInBounds, Array.toList_setIfInBounds, List.take_set, List.take_set, List.take_set, h4]
      exact flat_setX xs i (s, p, q) hi
def marksX (k n : Nat) : List Ex := (List.range n).map fun i => (mtx (k + 3 * i), ((k + 3 * i + 1 : Nat) : Int), ((k + 3 * i + 2 : Nat) : Int))
def mixedX (zs : List Ex) (k m : Nat) : List Ex := (List.range zs.length).map fun i => if i < m then (mtx (k + 3 * i), ((k + 3 * i + 1 : Nat) : Int), ((k + 3 * i + 2 : Nat) : Int)) else zs.getD i zE
theorem marksX_len (k n : Nat) : (marksX k n).length = n := by simp [marksX]
theorem mixedX_len (zs : List Ex) (k m : Nat) : (mixedX zs k m).length = zs.length := by simp [mixedX]
theorem mixedX_zero (zs : List Ex) (k : Nat) : mixedX zs k 0 = zs := by
  apply List.ext_getElem
  · simp [mixedX]
  · intro i h1 h2; simp [mixedX, h2]
theorem mixedX_all (zs : List Ex) (k : Nat) : mixedX zs k zs.length = marksX k zs.length := by
  apply List.ext_getElem
  · simp [mixedX, marksX]
  · intro i h1 h2
    simp [marksX] at h2
    simp [mixedX, marksX, h2]
theorem mixedX_set (zs : List Ex) (k m : Nat) (h : m < zs.length) : (mixedX zs k m).set m (mtx (k + 3 * m), ((k + 3 * m + 1 : Nat) : Int), ((k + 3 * m + 2 : Nat) : Int)) = mixedX zs k (m + 1) := by
  apply List.ext_getElem
  · simp [mixedX]
  · intro i h1 h2
    simp only [mixedX, List.getElem_set, List.getElem_map, List.getElem_range]
    by_cases hik : m = i
    · subst hik; simp
    · by_cases h3 : i < m
      · simp [hik, h3, show i < m + 1 by omega]
      · simp [hik, h3, show ¬ i < m + 1 by omega]

set_option maxHeartbeats 2000000 in
theorem markExportS_some (g n cap base : Nat) (zs : List Ex) (k : Nat) (w : World) (h : OG 207 3 clX w base (.slice (some ⟨g, 0, none⟩) n cap) zs) (hn : n ≤ 1048576) (h0 : 0 < k) (hk : k ≤ 4194304) :
    Calls Tryz.prog 94 #[.slice (some ⟨g, 0, none⟩) n cap, .int .i64 k] w fun e w' => e = .returned (.int .i64 ((k + 3 * n : Nat) : Int)) ∧ OG 207 3 clX w' base (.slice (some ⟨g, 0, none⟩) n cap) (marksX k n) ∧ Turn (fun j => j = g) w w' := by
  have hl := (og_parts h).1
  go_enter Tryz.func94, Tryz.ntmps94
  go_wp2
  go_loopw [1, 5] (fun x i wr => ∃ m : Nat, m ≤ n ∧ i = .int .i64 m ∧ x = .int .i64 ((k + 3 * m : Nat) : Int) ∧ OG 207 3 clX wr base (.slice (some ⟨g, 0, none⟩) n cap) (mixedX zs k m) ∧ Turn (fun j => j = g) w wr) (fun _ i _ => n - (intOf i).toNat)
  case atStart => exact ⟨0, Nat.zero_le _, rfl, rfl, by rw [mixedX_zero]; exact h, Turn.refl _ _⟩
  case round =>
    obtain ⟨m, hm, rfl, rfl, O, T⟩ := hrel
    by_cases hlt : m < n
    · have hlt' : (m : Int) < (n : Int) := by omega
      have HT := hide (markText_is (k + 3 * m) wr (by omega) (by omega))
      go_wp2_with fail
      refine HT.out.mono ?_
      rintro e w1 ⟨rfl, hb⟩
      have O1 := O.below hb
      have T1 := T.trans (turn_below hb)
      have hsl : Sl (fun j => j = g) w1 (some ⟨g, 0, none⟩) n 3 := by
        obtain ⟨_, ⟨h0', _⟩ | ⟨g', cap', cur, hv, _, hh, h1, _, h3, _⟩⟩ := O1
        · simp at h0'
        · simp at hv
          obtain ⟨rfl, rfl, rfl⟩ := hv
          refine Sl.ofBlk (c := 0) hh rfl ?_
          rw [mixedX_len] at h1
          omega
      obtain ⟨⟨u, c0⟩, f0, _⟩ := hsl.cell (by omega) (m * 3) (by omega)
      obtain ⟨⟨u1, c1⟩, f1, _⟩ := hsl.cell (by omega) (m * 3 + 1) (by omega)
      obtain ⟨⟨u2, c2⟩, f2, _⟩ := hsl.cell (by omega) (m * 3 + 2) (by omega)
      rw [Nat.zero_add] at c0 f0 c1 f1 c2 f2
      have HX := hide (fun (p q : Int) (hp : p = ((k + 3 * m + 1 : Nat) : Int)) (hq : q = ((k + 3 * m + 2 : Nat) : Int)) => by
        have O2 := ogX_set O1 m hlt (mtx (k + 3 * m)) p q
        rw [hp, hq, mixedX_set zs k m (by omega), ← hp, ← hq] at O2
        have T2 := ((T1.trans (turn_set w1 g (m * 3) (.string (mtx (k + 3 * m))))).trans (turn_set _ g (m * 3 + 1) (.int .i64 p))).trans (turn_set _ g (m * 3 + 2) (.int .i64 q))
        exact And.intro O2 T2)
      clear O T O1 T1 hb HT hsl
      go_wp2
      go_roundw
      case rel => exact ⟨m + 1, by omega, by go_num, by go_num, (HX.out _ _ (by go_num) (by go_num)).1, (HX.out _ _ (by go_num) (by go_num)).2⟩
      case measure => simp [intOf]; omega
    · have e : Hid (m = n) := by show m = n; omega
      have HX := hide (And.intro O T)
      clear O T
      go_wp2
      go_ret
      refine ⟨ret_int (by rw [e.out]), ?_, HX.out.2⟩
      have := HX.out.1
      rw [e.out, ← hl, mixedX_all] at this
      rw [hl] at this
      exact this
set_option maxHeartbeats 1000000 in
theorem markExportS_zero (a : Option Addr) (cap k : Nat) (w : World) :
    Calls Tryz.prog 94 #[.slice a 0 cap, .int .i64 k] w fun e w' => e = .returned (.int .i64 k) ∧ w = w' := by
  go_enter Tryz.func94, Tryz.ntmps94
  go_wp2
  go_loop [1, 5] (fun x i => i = .int .i64 0 ∧ x = .int .i64 k) (fun _ _ => 0)
  case atStart => exact ⟨rfl, rfl⟩
  case round =>
    obtain ⟨rfl, rfl⟩ := hrel
    go_wp2
    go_ret
    exact ⟨rfl, rfl⟩
theorem markExportS_any (a : Option Addr) (n cap base : Nat) (zs : List Ex) (k : Nat) (w : World) (h : OG 207 3 clX w base (.slice a n cap) zs) (hn : n ≤ 1048576) (h0 : 0 < k) (hk : k ≤ 4194304) :
    Calls Tryz.prog 94 #[.slice a n cap, .int .i64 k] w fun e w' => e = .returned (.int .i64 ((k + 3 * n : Nat) : Int)) ∧ OG 207 3 clX w' base (.slice a n cap) (marksX k n) ∧ Turn (fun j => (Value.slice a n cap).ownBlock = some j) w w' := by
  by_cases h1 : n = 0
  · subst h1
    refine (markExportS_zero a cap k w).mono fun e w' he => ?_
    obtain ⟨rfl, rfl⟩ := he
    have hz : zs = [] := List.eq_nil_of_length_eq_zero (og_parts h).1
    subst hz
    exact ⟨rfl, h, Turn.refl _ _⟩
  · obtain ⟨g, rfl⟩ := og_addr h h1
    refine (markExportS_some g n cap base zs k w h hn h0 hk).mono fun e w' he => ⟨he.1, he.2.1, he.2.2.mono ?_⟩
    intro j hj
    subst hj
    rfl
theorem ogX_at {w : World} {base g n c : Nat} {xs : List Ex} (h : OG 207 3 clX w base (.slice (some ⟨g, 0, none⟩) n c) xs) (m : Nat) (hm : m < n) : ∀ W, Below w.heap.size w W → W.cell? ⟨g, m * 3, none⟩ = some (.string (xs.getD m zE).1) ∧ W.cell? ⟨g, m * 3 + 1, none⟩ = some (.int .i64 (xs.getD m zE).2.1) ∧ W.cell? ⟨g, m * 3 + 2, none⟩ = some (.int .i64 (xs.getD m zE).2.2) := fun W hb => by
  have O := OG.below h hb
  obtain ⟨hl, _, _, h4⟩ := og_parts O
  obtain ⟨g', hg', hc⟩ := h4 (by omega)
  simp at hg'
  subst hg'
  obtain ⟨e0, e1, e2⟩ := flat_clX xs m (by omega)
  exact ⟨hc _ _ e0, hc _ _ e1, hc _ _ e2⟩
theorem marksX_at (k n m : Nat) (h : m < n) : (marksX k n).getD m zE = (mtx (k + 3 * m), ((k + 3 * m + 1 : Nat) : Int), ((k + 3 * m + 2 : Nat) : Int)) := by simp [marksX, List.getD_eq_getElem?_getD, h]

set_option maxHeartbeats 2000000 in
theorem heldExportS_any (a : Option Addr) (n cap base : Nat) (k : Nat) (w : World) (h : OG 207 3 clX w base (.slice a n cap) (marksX k n)) (hn : n ≤ 1048576) (h0 : 0 < k) (hk : k ≤ 4194304) :
    Calls Tryz.prog 193 #[.slice a n cap, .int .i64 k] w fun e w' => e = .returned (.int .i64 ((k + 3 * n : Nat) : Int)) ∧ Below w.heap.size w w' := by
  have HO := hide h
  clear h
  go_enter Tryz.func193, Tryz.ntmps193
  go_wp2
  go_loopw [1, 5] (fun x i wr => ∃ m : Nat, m ≤ n ∧ i = .int .i64 m ∧ x = .int .i64 ((k + 3 * m : Nat) : Int) ∧ Below w.heap.size w wr) (fun _ i _ => n - (intOf i).toNat)
  case atStart => exact ⟨0, Nat.zero_le _, rfl, rfl, Below.refl _ _⟩
  case round =>
    obtain ⟨m, hm, rfl, rfl, B⟩ := hrel
    by_cases hlt : m < n
    · have hlt' : (m : Int) < (n : Int) := by omega
      obtain ⟨g, rfl⟩ := og_addr HO.out (by omega)
      have HC0 := ogX_at HO.out m hlt
      rw [marksX_at k n m hlt] at HC0
      have HT := hide (fun W => markText_is (k + 3 * m) W (by omega) (by omega))
      obtain ⟨K, hK⟩ : ∃ K : Nat, K = k + 3 * m := ⟨_, rfl⟩
      have HK := hide hK
      have hKb : K ≤ 8388600 := by omega
      rw [← hK] at HC0 HT ⊢
      obtain ⟨s, hs⟩ : ∃ s, s = mtx K := ⟨_, rfl⟩
      rw [← hs] at HC0 HT
      have HC := hide HC0
      clear hs HC0 hK
      obtain ⟨c0, c1, c2⟩ := HC.out wr B
      have hne : (s.toList != s.toList) = false := by simp
      have HB := hide B
      clear B
      go_wp2_with fail
      go_region_held3 (fun w' => w'.cell? ⟨g, m * 3, none⟩ = some (.string s)) (go_keep) (first
        | (go_at_call 89; refine (HT.out _).mono ?_; rintro e w1 ⟨rfl, hb⟩; replace hb := HB.out.trans ((undrew hb).mono HB.out.size); obtain ⟨d0, d1, d2⟩ := HC.out w1 hb; have HB1 := hide hb; clear hb))
      clear c0 c1 c2 HB HC HT
      have e1 : ((K : Int) + 1 != ((K + 1 : Nat) : Int)) = false := by simp
      have e2 : ((K : Int) + 1 + 1 != ((K + 2 : Nat) : Int)) = false := by simp; omega
      go_wp2
      go_roundw
      case rel => exact ⟨m + 1, by omega, by go_num, by rw [HK.out]; go_num, HB1.out⟩
      case measure => simp [intOf]; omega
    · have e : Hid (m = n) := by show m = n; omega
      have HX := hide B
      clear B
      go_wp2
      go_ret
      exact ⟨ret_int (by rw [e.out]), HX.out⟩
end Go.Proofs.YtngdgogjlpjjpaeGreat

namespace Go.Proofs.YtngdgogjlpjjpaeGreat
open Go.RowKit
set_option linter.unusedVariables false
set_option linter.unusedSimpArgs false
set_option maxRecDepth 100000

/-- the blocks of the rows -/
def Sr (f : Nat → Option Addr × Nat × Nat) (n j : Nat) : Prop := ∃ i, i < n ∧ (Value.slice (f i).1 (f i).2.1 (f i).2.2).ownBlock = some j
/-- rows of rows, whose heads lie elsewhere -/
structure Rr (w : World) (base : Nat) (a : Option Addr) (n : Nat) (f : Nat → Option Addr × Nat × Nat) (X : Nat → List Int) : Prop where
  head : n ≠ 0 → ∃ g cs, a = some ⟨g, 0, none⟩ ∧ ¬ Sr f n g ∧ Blk w g cs 24 ∧ ∀ i, i < n → cs[i]? = some (.slice (f i).1 (f i).2.1 (f i).2.2)
  rows : ∀ i, i < n → OI w base (.slice (f i).1 (f i).2.1 (f i).2.2) (X i)
  apart : ∀ i j, i < n → j < n → i ≠ j → ∀ k, (Value.slice (f i).1 (f i).2.1 (f i).2.2).ownBlock = some k → (Value.slice (f j).1 (f j).2.1 (f j).2.2).ownBlock ≠ some k
/-- the marked rows -/
def mrk (k : Nat) (f : Nat → Option Addr × Nat × Nat) (i : Nat) : List Int := marksI (k + sumB f i) (f i).2.1
theorem Rr.kept {w w' : World} {base : Nat} {a : Option Addr} {n : Nat} {f : Nat → Option Addr × Nat × Nat} {X : Nat → List Int} {S : Nat → Prop} (h : Rr w base a n f X) (t : Turn S w w') (hs : ∀ i, i < n → ∀ k, (Value.slice (f i).1 (f i).2.1 (f i).2.2).ownBlock = some k → ¬ S k) (hh : n ≠ 0 → ∀ g cs, a = some ⟨g, 0, none⟩ → Blk w g cs 24 → ¬ S g) : Rr w' base a n f X :=
  ⟨fun hn => by obtain ⟨g, cs, ha, h1, h2, h3⟩ := h.head hn; exact ⟨g, cs, ha, h1, turn_blk t h2 (hh hn g cs ha h2), h3⟩, fun i hi => turn_oi t (h.rows i hi) (hs i hi), h.apart⟩

set_option maxHeartbeats 2000000 in
theorem markIntSS_any (a : Option Addr) (n cap k base : Nat) (f : Nat → Option Addr × Nat × Nat) (X : Nat → List Int) (w : World) (h : Rr w base a n f X) (hn : n ≤ 1048576) (hs : sumB f n ≤ 1048576) (hk : k ≤ 2097152) :
    Calls Tryz.prog 91 #[.slice a n cap, .int .i64 k] w fun e w' => e = .returned (.int .i64 ((k + sumB f n : Nat) : Int)) ∧ Rr w' base a n f (mrk k f) ∧ Turn (Sr f n) w w' := by
  have HH := hide h
  clear h
  go_enter Tryz.func91, Tryz.ntmps91
  go_wp2
  go_loopw [1, 5] (fun x i wr => ∃ m : Nat, m ≤ n ∧ i = .int .i64 m ∧ x = .int .i64 ((k + sumB f m : Nat) : Int) ∧ Rr wr base a n f (fun i => if i < m then mrk k f i else X i) ∧ Turn (Sr f n) w wr) (fun _ i _ => n - (intOf i).toNat)
  case atStart => exact ⟨0, Nat.zero_le _, rfl, rfl, HH.out, Turn.refl _ _⟩
  case round =>
    obtain ⟨m, hm, rfl, rfl, R, T⟩ := hrel
    by_cases hlt : m < n
    · have hlt' : (m : Int) < (n : Int) := by omega
      obtain ⟨g, cs, rfl, hng, hb, hc⟩ := R.head (by omega)
      have c0 := (hb.cell m).trans (hc m hlt)
      have hle := sumB_le f n m hlt
      have hr := R.rows m hlt
      simp only [Nat.lt_irrefl, if_false] at hr
      have HMK := hide (markIntS_any (f m).1 (f m).2.1 (f m).2.2 base (X m) (k + sumB f m) wr hr (by omega) (by omega))
      have HFIN := hide (fun (w1 : World) (O1 : OI w1 base (.slice (f m).1 (f m).2.1 (f m).2.2) (marksI (k + sumB f m) (f m).2.1)) (T1 : Turn (fun j => (Value.slice (f m).1 (f m).2.1 (f m).2.2).ownBlock = some j) wr w1) => show Rr w1 base (some ⟨g, 0, none⟩) n f (fun i => if i < m + 1 then mrk k f i else X i) ∧ Turn (Sr f n) w w1 from by
        refine ⟨⟨fun _ => ⟨g, cs, rfl, hng, turn_blk T1 hb (fun e => hng ⟨m, hlt, e⟩), hc⟩, fun i hi => ?_, R.apart⟩, T.trans (T1.mono (fun j hj => ⟨m, hlt, hj⟩))⟩
        by_cases e : i = m
        · subst e
          simp only [show i < i + 1 by omega, if_true]
          exact O1
        · have hi' := turn_oi T1 (R.rows i hi) (fun q hq hq' => R.apart i m hi hlt e q hq hq')
          by_cases e2 : i < m
          · simp only [e2, if_true, show i < m + 1 by omega] at hi' ⊢
            exact hi'
          · simp only [e2, if_false, show ¬ i < m + 1 by omega] at hi' ⊢
            exact hi')
      have HSU := hide (show sumB f (m + 1) = sumB f m + (f m).2.1 from rfl)
      clear R T hb hc hr
      generalize sumB f m = sm at *
      generalize f m = fm at *
      obtain ⟨fa, fn, fc⟩ := fm
      dsimp only at *
      go_wp2_with fail
      refine HMK.out.mono ?_
      rintro e w1 ⟨rfl, O1, T1⟩
      have HX := hide (HFIN.out w1 O1 T1)
      clear O1 T1 HFIN HMK c0
      go_wp2
      go_roundw
      case rel => exact ⟨m + 1, by omega, by go_num, by rw [HSU.out]; go_num, HX.out.1, HX.out.2⟩
      case measure => simp [intOf]; omega
    · have e : Hid (m = n) := by show m = n; omega
      have HX := hide (And.intro R T)
      clear R T
      go_wp2
      go_ret
      refine ⟨ret_int (by rw [e.out]), ?_, HX.out.2⟩
      have R := HX.out.1
      refine ⟨R.head, fun i hi => ?_, R.apart⟩
      have := R.rows i hi
      rw [e.out] at this
      simp only [hi, if_true] at this
      exact this

set_option maxHeartbeats 2000000 in
theorem heldIntSS_any (a : Option Addr) (n cap k base : Nat) (f : Nat → Option Addr × Nat × Nat) (w : World) (h : Rr w base a n f (mrk k f)) (hn : n ≤ 1048576) (hs : sumB f n ≤ 1048576) (hk : k ≤ 2097152) :
    Calls Tryz.prog 191 #[.slice a n cap, .int .i64 k] w fun e w' => e = .returned (.int .i64 ((k + sumB f n : Nat) : Int)) ∧ w = w' := by
  have HH := hide h
  clear h
  go_enter Tryz.func191, Tryz.ntmps191
  go_wp2
  go_loop [1, 5] (fun x i => ∃ m : Nat, m ≤ n ∧ i = .int .i64 m ∧ x = .int .i64 ((k + sumB f m : Nat) : Int)) (fun _ i => n - (intOf i).toNat)
  case atStart => exact ⟨0, Nat.zero_le _, rfl, rfl⟩
  case round =>
    obtain ⟨m, hm, rfl, rfl⟩ := hrel
    by_cases hlt : m < n
    · have hlt' : (m : Int) < (n : Int) := by omega
      obtain ⟨g, cs, rfl, hng, hb, hc⟩ := HH.out.head (by omega)
      have c0 := (hb.cell m).trans (hc m hlt)
      have hle := sumB_le f n m hlt
      have hr := (HH.out.rows m hlt).is
      unfold mrk at hr
      have HMK := hide (heldIntS_any (f m).1 (f m).2.1 (f m).2.2 (k + sumB f m) w hr (by omega) (by omega))
      have HSU := hide (show sumB f (m + 1) = sumB f m + (f m).2.1 from rfl)
      clear hb hc hr
      generalize sumB f m = sm at *
      generalize f m = fm at *
      obtain ⟨fa, fn, fc⟩ := fm
      dsimp only at *
      go_wp2_with fail
      refine HMK.out.mono ?_
      rintro e w1 ⟨rfl, rfl⟩
      have hnn : ¬ (((k + sm + fn : Nat) : Int) < 0) := by omega
      clear HMK
      go_wp2
      go_round
      case rel => exact ⟨m + 1, by omega, by go_num, by rw [HSU.out]; go_num⟩
      case measure => simp [intOf]; omega
    · have e : Hid (m = n) := by show m = n; omega
      go_wp2
      go_ret
      exact ⟨ret_int (by rw [e.out]), rfl⟩
end Go.Proofs.YtngdgogjlpjjpaeGreat

namespace Go.Proofs.YtngdgogjlpjjpaeGreat
open Go.RowKit
set_option linter.unusedVariables false
set_option linter.unusedSimpArgs false
set_option maxRecDepth 100000

abbrev Rw3 := Option Addr × Nat × Nat
def svR (r : Rw3) : Value := .slice r.1 r.2.1 r.2.2
/-- how many marks the first places take -/
def sumP (f : Nat → Rw3) : Nat → Nat
  | 0 => 0
  | n + 1 => sumP f n + ((f n).2.1 + 3)
theorem sumP_le (f : Nat → Rw3) : ∀ n i, i < n → (f i).2.1 + 3 + sumP f i ≤ sumP f n
  | 0, i, h => by omega
  | n + 1, i, h => by
    show _ ≤ sumP f n + ((f n).2.1 + 3)
    by_cases e : i = n
    · subst e; omega
    · have := sumP_le f n i (by omega); omega
/-- the cells of a place -/
def Ar4 (cs : Array Value) (o : Nat) (v : Int × Int × Int) (r : Rw3) : Prop := cs[o]? = some (.int .i64 v.1) ∧ cs[o + 1]? = some (svR r) ∧ cs[o + 2]? = some (.int .i64 v.2.1) ∧ cs[o + 3]? = some (.int .i64 v.2.2)
theorem get_lt {cs : Array Value} {i : Nat} {u : Value} (h : cs[i]? = some u) : i < cs.size := by
  rcases Nat.lt_or_ge i cs.size with h1 | h1
  · exact h1
  · rw [Array.getElem?_eq_none h1] at h; cases h
theorem ar_other {cs : Array Value} {i j : Nat} {u v : Value} (h : cs[j]? = some u) (hn : i ≠ j) : (cs.setIfInBounds i v)[j]? = some u := by
  rw [Array.getElem?_setIfInBounds, if_neg hn]; exact h
theorem ar_same {cs : Array Value} {i : Nat} {u v : Value} (h : cs[i]? = some u) : (cs.setIfInBounds i v)[i]? = some v := by
  rw [Array.getElem?_setIfInBounds, if_pos rfl, if_pos (get_lt h)]
theorem ar4_set {cs : Array Value} {o : Nat} {v : Int × Int × Int} {r : Rw3} (h : Ar4 cs o v r) (x y z : Int) : Ar4 (((cs.setIfInBounds o (.int .i64 x)).setIfInBounds (o + 2) (.int .i64 y)).setIfInBounds (o + 3) (.int .i64 z)) o (x, y, z) r :=
  ⟨ar_other (ar_other (ar_same h.1) (by omega)) (by omega), ar_other (ar_other (ar_other h.2.1 (by omega)) (by omega)) (by omega), ar_other (ar_same (ar_other h.2.2.1 (by omega))) (by omega), ar_same (ar_other (ar_other h.2.2.2 (by omega)) (by omega))⟩
theorem ar4_far {cs : Array Value} {o o' : Nat} {v : Int × Int × Int} {r : Rw3} (h : Ar4 cs o' v r) (hf : o' + 4 ≤ o ∨ o + 4 ≤ o') (x y z : Int) : Ar4 (((cs.setIfInBounds o (.int .i64 x)).setIfInBounds (o + 2) (.int .i64 y)).setIfInBounds (o + 3) (.int .i64 z)) o' v r :=
  ⟨ar_other (ar_other (ar_other h.1 (by omega)) (by omega)) (by omega), ar_other (ar_other (ar_other h.2.1 (by omega)) (by omega)) (by omega), ar_other (ar_other (ar_other h.2.2.1 (by omega)) (by omega)) (by omega), ar_other (ar_other (ar_other h.2.2.2 (by omega)) (by omega)) (by omega)⟩
/-- places, with any numbers in them, whose banks' rows lie elsewhere -/
structure Rp (w : World) (base : Nat) (a : Option Addr) (n : Nat) (f : Nat → Rw3) (V : Nat → Int × Int × Int) (X : Nat → List Int) : Prop where
  head : n ≠ 0 → ∃ g cs, a = some ⟨g, 0, none⟩ ∧ ¬ Sr f n g ∧ Blk w g cs 138 ∧ ∀ i, i < n → Ar4 cs (i * 4) (V i) (f i)
  rows : ∀ i, i < n → OI w base (svR (f i)) (X i)
  apart : ∀ i j, i < n → j < n → i ≠ j → ∀ k, (svR (f i)).ownBlock = some k → (svR (f j)).ownBlock ≠ some k
  hb : n ≠ 0 → ∀ g, a = some ⟨g, 0, none⟩ → base ≤ g
def mvP (k : Nat) (f : Nat → Rw3) (i : Nat) : Int × Int × Int := (((k + sumP f i : Nat) : Int), ((k + sumP f i + 1 + (f i).2.1 : Nat) : Int), ((k + sumP f i + 1 + (f i).2.1 + 1 : Nat) : Int))
def mrkP (k : Nat) (f : Nat → Rw3) (i : Nat) : List Int := marksI (k + sumP f i + 1) (f i).2.1
def Sp (a : Option Addr) (f : Nat → Rw3) (n j : Nat) : Prop := Sr f n j ∨ (n ≠ 0 ∧ ∃ g, a = some ⟨g, 0, none⟩ ∧ j = g)
theorem Rp.kept {w w' : World} {base : Nat} {a : Option Addr} {n : Nat} {f : Nat → Rw3} {V : Nat → Int × Int × Int} {X : Nat → List Int} {S : Nat → Prop} (h : Rp w base a n f V X) (t : Turn S w w') (hs : ∀ i, i < n → ∀ k, (svR (f i)).ownBlock = some k → ¬ S k) (hh : n ≠ 0 → ∀ g cs, a = some ⟨g, 0, none⟩ → Blk w g cs 138 → ¬ S g) : Rp w' base a n f V X :=
  ⟨fun hn => by obtain ⟨g, cs, ha, h1, h2, h3⟩ := h.head hn; exact ⟨g, cs, ha, h1, turn_blk t h2 (hh hn g cs ha h2), h3⟩, fun i hi => turn_oi t (h.rows i hi) (hs i hi), h.apart, h.hb⟩
theorem Rp.step {wr w1 : World} {base g n m : Nat} {f : Nat → Rw3} {V V' : Nat → Int × Int × Int} {X X' : Nat → List Int} {cs : Array Value} (h : Rp wr base (some ⟨g, 0, none⟩) n f V X) (hng : ¬ Sr f n g) (hb : Blk wr g cs 138) (hc : ∀ i, i < n → Ar4 cs (i * 4) (V i) (f i)) (hm : m < n) (x y z : Int)
    (hV : ∀ i, i ≠ m → V' i = V i) (hVm : V' m = (x, y, z)) (hX : ∀ i, i ≠ m → X' i = X i) (T1 : Turn (fun j => (svR (f m)).ownBlock = some j) (wr.setCell ⟨g, m * 4, none⟩ (.int .i64 x)) w1) (O1 : OI w1 base (svR (f m)) (X' m)) :
    Rp ((w1.setCell ⟨g, m * 4 + 2, none⟩ (.int .i64 y)).setCell ⟨g, m * 4 + 3, none⟩ (.int .i64 z)) base (some ⟨g, 0, none⟩) n f V' X' := by
  have T2 : Turn (fun j => j = g) w1 ((w1.setCell ⟨g, m * 4 + 2, none⟩ (.int .i64 y)).setCell ⟨g, m * 4 + 3, none⟩ (.int .i64 z)) := (turn_set _ _ _ _).trans (turn_set _ _ _ _)
  have T0 : Turn (fun j => j = g) wr (wr.setCell ⟨g, m * 4, none⟩ (.int .i64 x)) := turn_set _ _ _ _
  have b1 := turn_blk T1 (hb.set (m * 4) (.int .i64 x)) (fun e => hng ⟨m, hm, e⟩)
  refine ⟨fun _ => ⟨g, _, rfl, hng, (b1.set (m * 4 + 2) _).set (m * 4 + 3) _, fun i hi => ?_⟩, fun i hi => ?_, h.apart, h.hb⟩
  · by_cases e : i = m
    · subst e; rw [hVm]; exact ar4_set (hc i hi) x y z
    · rw [hV i e]; exact ar4_far (hc i hi) (by omega) x y z
  · by_cases e : i = m
    · subst e
      exact turn_oi T2 O1 (fun k hk s => hng ⟨i, hi, by rw [← s]; exact hk⟩)
    · rw [hX i e]
      have o0 := turn_oi T0 (h.rows i hi) (fun k hk s => hng ⟨i, hi, by rw [← s]; exact hk⟩)
      have o1 := turn_oi T1 o0 (fun q hq hq' => h.apart i m hi hm e q hq hq')
      exact turn_oi T2 o1 (fun k hk s => hng ⟨i, hi, by rw [← s]; exact hk⟩)

set_option maxHeartbeats 4000000 in
theorem markPlaceS_any (a : Option Addr) (n cap k base : Nat) (f : Nat → Rw3) (V : Nat → Int × Int × Int) (X : Nat → List Int) (w : World) (h : Rp w base a n f V X) (hn : n ≤ 1048576) (hs : sumP f n ≤ 1048576) (hk : k ≤ 2097152) :
    Calls Tryz.prog 95 #[.slice a n cap, .int .i64 k] w fun e w' => e = .returned (.int .i64 ((k + sumP f n : Nat) : Int)) ∧ Rp w' base a n f (mvP k f) (mrkP k f) ∧ Turn (Sp a f n) w w' := by
  have HH := hide h
  clear h
  go_enter Tryz.func95, Tryz.ntmps95
  go_wp2
  go_loopw [1, 5] (fun x i wr => ∃ m : Nat, m ≤ n ∧ i = .int .i64 m ∧ x = .int .i64 ((k + sumP f m : Nat) : Int) ∧ Rp wr base a n f (fun i => if i < m then mvP k f i else V i) (fun i => if i < m then mrkP k f i else X i) ∧ Turn (Sp a f n) w wr) (fun _ i _ => n - (intOf i).toNat)
  case atStart => exact ⟨0, Nat.zero_le _, rfl, rfl, HH.out, Turn.refl _ _⟩
  case round =>
    obtain ⟨m, hm, rfl, rfl, R, T⟩ := hrel
    by_cases hlt : m < n
    · have hlt' : (m : Int) < (n : Int) := by omega
      obtain ⟨g, cs, rfl, hng, hb, hc⟩ := R.head (by omega)
      have hf : ∀ i, wr.frozen? ⟨g, i, none⟩ = false := fun i => hb.frozen i
      obtain ⟨d0, d1, d2, d3⟩ := hc m hlt
      have c0 := (hb.cell (m * 4)).trans d0
      have hle := sumP_le f n m hlt
      have hr := R.rows m hlt
      simp only [Nat.lt_irrefl, if_false] at hr
      have T0 : Turn (fun j => j = g) wr (wr.setCell ⟨g, m * 4, none⟩ (.int .i64 ((k : Int) + (sumP f m : Int)))) := turn_set _ _ _ _
      have hr0 := turn_oi T0 hr (fun k hk s => hng ⟨m, hlt, by rw [← s]; exact hk⟩)
      have hb0 := hb.set (m * 4) (.int .i64 ((k : Int) + (sumP f m : Int)))
      have c1 := (hb0.cell (m * 4 + 1)).trans (ar_other d1 (by omega))
      have HMK := hide (by
        have := markIntS_any (f m).1 (f m).2.1 (f m).2.2 base (X m) (k + sumP f m + 1) _ hr0 (by omega) (by omega)
        rw [show ((k + sumP f m + 1 : Nat) : Int) = (k : Int) + (sumP f m : Int) + 1 by push_cast; rfl] at this
        exact this)
      have HCL := hide (fun (w1 : World) (T1 : Turn (fun j => (svR (f m)).ownBlock = some j) (wr.setCell ⟨g, m * 4, none⟩ (.int .i64 ((k : Int) + (sumP f m : Int)))) w1) => by
        have b1 := turn_blk T1 hb0 (fun e => hng ⟨m, hlt, e⟩)
        exact And.intro ((b1.cell (m * 4 + 2)).trans (ar_other d2 (by omega))) (And.intro ((b1.cell (m * 4 + 3)).trans (ar_other d3 (by omega))) (fun i => b1.frozen i)))
      have HFIN := hide (fun (w1 : World) (y z : Int) (hy : y = ((k + sumP f m + 1 + (f m).2.1 : Nat) : Int)) (hz : z = ((k + sumP f m + 1 + (f m).2.1 + 1 : Nat) : Int)) (O1 : OI w1 base (svR (f m)) (marksI (k + sumP f m + 1) (f m).2.1)) (T1 : Turn (fun j => (svR (f m)).ownBlock = some j) (wr.setCell ⟨g, m * 4, none⟩ (.int .i64 ((k : Int) + (sumP f m : Int)))) w1) => show Rp ((w1.setCell ⟨g, m * 4 + 2, none⟩ (.int .i64 y)).setCell ⟨g, m * 4 + 3, none⟩ (.int .i64 z)) base (some ⟨g, 0, none⟩) n f (fun i => if i < m + 1 then mvP k f i else V i) (fun i => if i < m + 1 then mrkP k f i else X i) ∧ Turn (Sp (some ⟨g, 0, none⟩) f n) w ((w1.setCell ⟨g, m * 4 + 2, none⟩ (.int .i64 y)).setCell ⟨g, m * 4 + 3, none⟩ (.int .i64 z)) from by
        refine ⟨R.step hng hb hc hlt _ y z (fun i hi => ?_) ?_ (fun i hi => ?_) T1 ?_, ?_⟩
        · by_cases e2 : i < m
          · rw [if_pos e2, if_pos (by omega)]
          · rw [if_neg e2, if_neg (by omega)]
        · rw [if_pos (by omega), hy, hz]; unfold mvP; push_cast; rfl
        · by_cases e2 : i < m
          · rw [if_pos e2, if_pos (by omega)]
          · rw [if_neg e2, if_neg (by omega)]
        · simp only [show m < m + 1 by omega, if_true]; exact O1
        · exact ((T.trans (T0.mono (fun j hj => .inr ⟨by omega, g, rfl, hj⟩))).trans (T1.mono (fun j hj => .inl ⟨m, hlt, hj⟩))).trans (((turn_set w1 g (m * 4 + 2) _).trans (turn_set _ g (m * 4 + 3) _)).mono (fun j hj => .inr ⟨by omega, g, rfl, hj⟩)))
      have HSU := hide (show sumP f (m + 1) = sumP f m + ((f m).2.1 + 3) from rfl)
      clear R T hb hc hr T0 hr0 hb0 d0 d1 d2 d3
      unfold svR at c1 HFIN HCL
      generalize sumP f m = sm at *
      generalize f m = fm at *
      obtain ⟨fa, fn, fc⟩ := fm
      dsimp only at *
      have hf0 := hf (m * 4)
      clear hf
      go_wp2_with fail
      refine HMK.out.mono ?_
      rintro e w1 ⟨rfl, O1, T1⟩
      obtain ⟨e2, e3, e4⟩ := HCL.out w1 T1
      have e42 := e4 (m * 4 + 2)
      have e43 := e4 (m * 4 + 3)
      have HX := hide (fun y z hy hz => HFIN.out w1 y z hy hz O1 T1)
      clear O1 T1 HFIN HMK c0 c1 HCL e4
      go_wp2
      go_roundw
      case rel => exact ⟨m + 1, by omega, by go_num, by rw [HSU.out]; go_num, (HX.out _ _ (by go_num) (by go_num)).1, (HX.out _ _ (by go_num) (by go_num)).2⟩
      case measure => simp [intOf]; omega
    · have e : Hid (m = n) := by show m = n; omega
      have HX := hide (And.intro R T)
      clear R T
      go_wp2
      go_ret
      refine ⟨ret_int (by rw [e.out]), ?_, HX.out.2⟩
      have R := HX.out.1
      rw [e.out] at R
      refine ⟨fun h0 => ?_, fun i hi => ?_, R.apart, R.hb⟩
      · obtain ⟨g, cs, h1, h2, h3, h4⟩ := R.head h0
        refine ⟨g, cs, h1, h2, h3, fun i hi => ?_⟩
        have := h4 i hi
        simp only [hi, if_true] at this
        exact this
      · have := R.rows i hi
        simp only [hi, if_true] at this
        exact this
end Go.Proofs.YtngdgogjlpjjpaeGreat

namespace Go.Proofs.YtngdgogjlpjjpaeGreat
open Go.RowKit
set_option linter.unusedVariables false
set_option linter.unusedSimpArgs false
set_option maxRecDepth 100000

end Go.Proofs.YtngdgogjlpjjpaeGreat

namespace Go.Proofs.YtngdgogjlpjjpaeGreat
open Go.RowKit
set_option linter.unusedVariables false
set_option linter.unusedSimpArgs false
set_option maxRecDepth 100000

/-- the heads of banks that were copied -/
def bankF (xs : List Nat) (bl : List Bk) (i : Nat) : Option Addr × Nat × Nat := (some ⟨xs.getD i 0, 0, none⟩, (bl.getD i zB).2.1, (bl.getD i zB).2.1)
theorem sumB_bank (xs : List Nat) (bl : List Bk) : ∀ n, sumB (bankF xs bl) n = upS (fun j => (bl.getD j zB).2.1) n
  | 0 => rfl
  | n + 1 => by show sumB (bankF xs bl) n + _ = upS _ n + _; rw [sumB_bank xs bl n]; rfl
/-- the rows of a module that was copied may be marked -/
theorem mod_sl {nm : ByteArray} {ta : Option Addr} {tn tc : Nat} {tz : List Int} {ba : Option Addr} {bn bc : Nat} {bl : List Bk} {da : Option Addr} {dn dc : Nat} {dz : List Int} {bss : Int} {ra : Option Addr} {rn rc : Nat} {rz : List Int} {ia : Option Addr} {im ic : Nat} {ss : List ByteArray} {ea : Option Addr} {en ec : Nat} {es : List Ex} {w W : World} {g1 g2 g3 g5 g6 g7 : Nat} {gs : List Nat} (h : MT w nm ta tn tc tz ba bn bc bl da dn dc dz bss ra rn rc rz ia im ic ss ea en ec es) (hg : gs.length = bn)
    (r1 : RowI W g1 tz) (r2 : RowB W g2 bn gs bl) (r3 : Row8 W g3 dz) (r5 : RowI W g5 rz) (r6 : RowT W g6 ss) (r7 : RowX W g7 es) {S : Nat → Prop} (s1 : S g1) (s2 : ¬ S g2) (sb : ∀ i, i < bn → S (gs.getD i 0)) (s3 : S g3) (s5 : S g5) (s6 : S g6) (s7 : S g7) :
    Sl S W (some ⟨g1, 0, none⟩) tn 1 ∧ SlB S W (some ⟨g2, 0, none⟩) bn (bankF gs bl) ∧ Sl S W (some ⟨g3, 0, none⟩) dn 1 ∧ Sl S W (some ⟨g5, 0, none⟩) rn 1 ∧ Sl S W (some ⟨g6, 0, none⟩) im 1 ∧ Sl S W (some ⟨g7, 0, none⟩) en 3 := by
  obtain ⟨⟨cur, hb, hsz, hc⟩, hr, _⟩ := r2
  obtain ⟨⟨cx, hx, hxs⟩, _⟩ := r7
  refine ⟨Sl.ofBlk (c := tc) r1 s1 (by simp [h.t.1]), ⟨fun _ => ⟨g2, 0, cur, _, rfl, s2, hb, fun i hi => by rw [Nat.zero_add]; exact hc i (by omega)⟩, fun i hi => ?_⟩, Sl.ofBlk (c := tc) r3 s3 (by simp [h.d.1]), Sl.ofBlk (c := tc) r5 s5 (by simp [h.r.1]), Sl.ofBlk (c := tc) r6 s6 (by simp [h.i.1]), Sl.ofBlk (c := tc) hx s7 (by rw [hxs, h.e.1]; exact Nat.le_refl _)⟩
  exact Sl.ofBlk (c := tc) (hr i (by omega)).1 (sb i hi) (by have e1 : (bankF gs bl i).2.1 = (bl.getD i zB).2.1 := rfl; have e2 := (h.b.2.2.2.1 i hi).1; rw [e1, List.size_toArray, List.length_map, e2]; omega)
end Go.Proofs.YtngdgogjlpjjpaeGreat
