import Derived.Test.YtngdgogjlpjjpacJ31
namespace Go.Proofs.Ytngdgogjlpjjpac
open Go.RowKit
set_option linter.unusedVariables false
set_option linter.unusedSimpArgs false
set_option maxRecDepth 100000

theorem flat_setX : ∀ (xs : List Ex) (i : Nat) (x : Ex), i < xs.length → (((xs.flatMap clX).set (i * 3) (.string x.1)).set (i * 3 + 1) (.int .i64 x.2.1)).set (i * 3 + 2) (.int .i64 x.2.2) = (xs.set i x).flatMap clX
  | [], i, x, h => by simp at h
  | y :: ys, 0, x, h => by simp [clX]
  | y :: ys, i + 1, x, h => by
    have ih := flat_setX ys i x (by simpa using h)
    rw [show (i + 1) * 3 = i * 3 + 1 + 1 + 1 by omega]
    simp only [List.flatMap_cons, clX, List.cons_append, List.nil_append, List.set_cons_succ]
    rw [← ih]
theorem ogX_set {w : World} {base g n c : Nat} {xs : List Ex} (h : OG 86 3 clX w base (.slice (some ⟨g, 0, none⟩) n c) xs) (i : Nat) (hi : i < n) (s : ByteArray) (p q : Int) : OG 86 3 clX (((w.setCell ⟨g, i * 3, none⟩ (.string s)).setCell ⟨g, i * 3 + 1, none⟩ (.int .i64 p)).setCell ⟨g, i * 3 + 2, none⟩ (.int .i64 q)) base (.slice (some ⟨g, 0, none⟩) n c) (xs.set i (s, p, q)) := by
  obtain ⟨hl, ⟨h0, _⟩ | ⟨g', cap', cur, hv, hg, hh, h1, h2, h3, h4⟩⟩ := h
  · simp at h0
  · simp at hv
    obtain ⟨rfl, rfl, rfl⟩ := hv
    refine ⟨?_, .inr ⟨g, c, ((cur.setIfInBounds (i * 3) (.string s)).setIfInBounds (i * 3 + 1) (.int .i64 p)).setIfInBounds (i * 3 + 2) (.int .i64 q), by simp, hg, Blk.set (Blk.set (Blk.set (w := w) hh _ _) _ _) _ _, by simpa using h1, h2, by simpa using h3, ?_⟩⟩
    · rw [← flat_setX xs i (s, p, q) hi]
      simpa using hl
    · rw [List.length_set, Array.toList_setIfInBounds, Array.toList_setIfInBounds, Array.toList_setIfInBounds, List.take_set, List.take_set, List.take_set, h4]
      exact flat_setX xs i (s, p, q) hi
def marksX (k n : Nat) : List Ex := (List.range n).map fun i => (mtx (k + 3 * i), ((k + 3 * i + 1 : Nat) : Int), ((k + 3 * i + 2 : Nat) : Int))
def mixedX (zs : List Ex) (k m : Nat) : List Ex := (List.range zs.length).map fun i => if i < m then (mtx (k + 3 * i), ((k + 3 * i + 1 : Nat) : Int), ((k + 3 * i + 2 : Nat) : Int)) else zs.getD i zE
theorem marksX_len (k n : Nat) : (marksX k n).length = n := by simp [marksX]
theorem mixedX_len (zs : List Ex) (k m : Nat) : (mixedX zs k m).length = zs.length := by simp [mixedX]
theorem mixedX_zero (zs : List Ex) (k : Nat) : mixedX zs k 0 = zs := by
  apply List.ext_getElem
  · simp [mixedX]
  · intro i h1 h2; simp [mixedX, h2]
theorem mixedX_all (zs : List Ex) (k : Nat) : mixedX zs k zs.length = marksX k zs.length := by
  apply List.ext_getElem
  · simp [mixedX, marksX]
  · intro i h1 h2
    simp [marksX] at h2
    simp [mixedX, marksX, h2]
theorem mixedX_set (zs : List Ex) (k m : Nat) (h : m < zs.length) : (mixedX zs k m).set m (mtx (k + 3 * m), ((k + 3 * m + 1 : Nat) : Int), ((k + 3 * m + 2 : Nat) : Int)) = mixedX zs k (m + 1) := by
  apply List.ext_getElem
  · simp [mixedX]
  · intro i h1 h2
    simp only [mixedX, List.getElem_set, List.getElem_map, List.getElem_range]
    by_cases hik : m = i
    · subst hik; simp
    · by_cases h3 : i < m
      · simp [hik, h3, show i < m + 1 by omega]
      · simp [hik, h3, show ¬ i < m + 1 by omega]

set_option maxHeartbeats 2000000 in
theorem markExportS_some (g n cap base : Nat) (zs : List Ex) (k : Nat) (w : World) (h : OG 86 3 clX w base (.slice (some ⟨g, 0, none⟩) n cap) zs) (hn : n ≤ 1048576) (h0 : 0 < k) (hk : k ≤ 4194304) :
    Calls Try.prog 100 #[.slice (some ⟨g, 0, none⟩) n cap, .int .i64 k] w fun e w' => e = .returned (.int .i64 ((k + 3 * n : Nat) : Int)) ∧ OG 86 3 clX w' base (.slice (some ⟨g, 0, none⟩) n cap) (marksX k n) ∧ Turn (fun j => j = g) w w' := by
  have hl := (og_parts h).1
  go_enter Try.func100, Try.ntmps100
  go_wp2
  go_loopw [1, 5] (fun x i wr => ∃ m : Nat, m ≤ n ∧ i = .int .i64 m ∧ x = .int .i64 ((k + 3 * m : Nat) : Int) ∧ OG 86 3 clX wr base (.slice (some ⟨g, 0, none⟩) n cap) (mixedX zs k m) ∧ Turn (fun j => j = g) w wr) (fun _ i _ => n - (intOf i).toNat)
  case atStart => exact ⟨0, Nat.zero_le _, rfl, rfl, by rw [mixedX_zero]; exact h, Turn.refl _ _⟩
  case round =>
    obtain ⟨m, hm, rfl, rfl, O, T⟩ := hrel
    by_cases hlt : m < n
    · have hlt' : (m : Int) < (n : Int) := by omega
      have HT := hide (markText_is (k + 3 * m) wr (by omega) (by omega))
      go_wp2_with fail
      refine HT.out.mono ?_
      rintro e w1 ⟨rfl, hb⟩
      have O1 := O.below hb
      have T1 := T.trans (turn_below hb)
      have hsl : Sl (fun j => j = g) w1 (some ⟨g, 0, none⟩) n 3 := by
        obtain ⟨_, ⟨h0', _⟩ | ⟨g', cap', cur, hv, _, hh, h1, _, h3, _⟩⟩ := O1
        · simp at h0'
        · simp at hv
          obtain ⟨rfl, rfl, rfl⟩ := hv
          refine Sl.ofBlk (c := 0) hh rfl ?_
          rw [mixedX_len] at h1
          omega
      obtain ⟨⟨u, c0⟩, f0, _⟩ := hsl.cell (by omega) (m * 3) (by omega)
      obtain ⟨⟨u1, c1⟩, f1, _⟩ := hsl.cell (by omega) (m * 3 + 1) (by omega)
      obtain ⟨⟨u2, c2⟩, f2, _⟩ := hsl.cell (by omega) (m * 3 + 2) (by omega)
      rw [Nat.zero_add] at c0 f0 c1 f1 c2 f2
      have HX := hide (fun (p q : Int) (hp : p = ((k + 3 * m + 1 : Nat) : Int)) (hq : q = ((k + 3 * m + 2 : Nat) : Int)) => by
        have O2 := ogX_set O1 m hlt (mtx (k + 3 * m)) p q
        rw [hp, hq, mixedX_set zs k m (by omega), ← hp, ← hq] at O2
        have T2 := ((T1.trans (turn_set w1 g (m * 3) (.string (mtx (k + 3 * m))))).trans (turn_set _ g (m * 3 + 1) (.int .i64 p))).trans (turn_set _ g (m * 3 + 2) (.int .i64 q))
        exact And.intro O2 T2)
      clear O T O1 T1 hb HT hsl
      go_wp2
      go_roundw
      case rel => exact ⟨m + 1, by omega, by go_num, by go_num, (HX.out _ _ (by go_num) (by go_num)).1, (HX.out _ _ (by go_num) (by go_num)).2⟩
      case measure => simp [intOf]; omega
    · have e : Hid (m = n) := by show m = n; omega
      have HX := hide (And.intro O T)
      clear O T
      go_wp2
      go_ret
      refine ⟨ret_int (by rw [e.out]), ?_, HX.out.2⟩
      have := HX.out.1
      rw [e.out, ← hl, mixedX_all] at this
      rw [hl] at this
      exact this
set_option maxHeartbeats 1000000 in
theorem markExportS_zero (a : Option Addr) (cap k : Nat) (w : World) :
    Calls Try.prog 100 #[.slice a 0 cap, .int .i64 k] w fun e w' => e = .returned (.int .i64 k) ∧ w = w' := by
  go_enter Try.func100, Try.ntmps100
  go_wp2
  go_loop [1, 5] (fun x i => i = .int .i64 0 ∧ x = .int .i64 k) (fun _ _ => 0)
  case atStart => exact ⟨rfl, rfl⟩
  case round =>
    obtain ⟨rfl, rfl⟩ := hrel
    go_wp2
    go_ret
    exact ⟨rfl, rfl⟩
theorem markExportS_any (a : Option Addr) (n cap base : Nat) (zs : List Ex) (k : Nat) (w : World) (h : OG 86 3 clX w base (.slice a n cap) zs) (hn : n ≤ 1048576) (h0 : 0 < k) (hk : k ≤ 4194304) :
    Calls Try.prog 100 #[.slice a n cap, .int .i64 k] w fun e w' => e = .returned (.int .i64 ((k + 3 * n : Nat) : Int)) ∧ OG 86 3 clX w' base (.slice a n cap) (marksX k n) ∧ Turn (fun j => (Value.slice a n cap).ownBlock = some j) w w' := by
  by_cases h1 : n = 0
  · subst h1
    refine (markExportS_zero a cap k w).mono fun e w' he => ?_
    obtain ⟨rfl, rfl⟩ := he
    have hz : zs = [] := List.eq_nil_of_length_eq_zero (og_parts h).1
    subst hz
    exact ⟨rfl, h, Turn.refl _ _⟩
  · obtain ⟨g, rfl⟩ := og_addr h h1
    refine (markExportS_some g n cap base zs k w h hn h0 hk).mono fun e w' he => ⟨he.1, he.2.1, he.2.2.mono ?_⟩
    intro j hj
    subst hj
    rfl
theorem ogX_at {w : World} {base g n c : Nat} {xs : List Ex} (h : OG 86 3 clX w base (.slice (some ⟨g, 0, none⟩) n c) xs) (m : Nat) (hm : m < n) : ∀ W, Below w.heap.size w W → W.cell? ⟨g, m * 3, none⟩ = some (.string (xs.getD m zE).1) ∧ W.cell? ⟨g, m * 3 + 1, none⟩ = some (.int .i64 (xs.getD m zE).2.1) ∧ W.cell? ⟨g, m * 3 + 2, none⟩ = some (.int .i64 (xs.getD m zE).2.2) := fun W hb => by
  have O := OG.below h hb
  obtain ⟨hl, _, _, h4⟩ := og_parts O
  obtain ⟨g', hg', hc⟩ := h4 (by omega)
  simp at hg'
  subst hg'
  obtain ⟨e0, e1, e2⟩ := flat_clX xs m (by omega)
  exact ⟨hc _ _ e0, hc _ _ e1, hc _ _ e2⟩
theorem marksX_at (k n m : Nat) (h : m < n) : (marksX k n).getD m zE = (mtx (k + 3 * m), ((k + 3 * m + 1 : Nat) : Int), ((k + 3 * m + 2 : Nat) : Int)) := by simp [marksX, List.getD_eq_getElem?_getD, h]

set_option maxHeartbeats 2000000 in
theorem heldExportS_any (a : Option Addr) (n cap base : Nat) (k : Nat) (w : World) (h : OG 86 3 clX w base (.slice a n cap) (marksX k n)) (hn : n ≤ 1048576) (h0 : 0 < k) (hk : k ≤ 4194304) :
    Calls Try.prog 105 #[.slice a n cap, .int .i64 k] w fun e w' => e = .returned (.int .i64 ((k + 3 * n : Nat) : Int)) ∧ Below w.heap.size w w' := by
  have HO := hide h
  clear h
  go_enter Try.func105, Try.ntmps105
  go_wp2
  go_loopw [1, 5] (fun x i wr => ∃ m : Nat, m ≤ n ∧ i = .int .i64 m ∧ x = .int .i64 ((k + 3 * m : Nat) : Int) ∧ Below w.heap.size w wr) (fun _ i _ => n - (intOf i).toNat)
  case atStart => exact ⟨0, Nat.zero_le _, rfl, rfl, Below.refl _ _⟩
  case round =>
    obtain ⟨m, hm, rfl, rfl, B⟩ := hrel
    by_cases hlt : m < n
    · have hlt' : (m : Int) < (n : Int) := by omega
      obtain ⟨g, rfl⟩ := og_addr HO.out (by omega)
      have HC0 := ogX_at HO.out m hlt
      rw [marksX_at k n m hlt] at HC0
      have HT := hide (fun W => markText_is (k + 3 * m) W (by omega) (by omega))
      obtain ⟨K, hK⟩ : ∃ K : Nat, K = k + 3 * m := ⟨_, rfl⟩
      have HK := hide hK
      have hKb : K ≤ 8388600 := by omega
      rw [← hK] at HC0 HT ⊢
      obtain ⟨s, hs⟩ : ∃ s, s = mtx K := ⟨_, rfl⟩
      rw [← hs] at HC0 HT
      have HC := hide HC0
      clear hs HC0 hK
      obtain ⟨c0, c1, c2⟩ := HC.out wr B
      have hne : (s.toList != s.toList) = false := by simp
      have HB := hide B
      clear B
      go_wp2_with fail
      go_region_held3 (fun w' => w'.cell? ⟨g, m * 3, none⟩ = some (.string s)) (go_keep) (first
        | (go_at_call 136; refine (HT.out _).mono ?_; rintro e w1 ⟨rfl, hb⟩; replace hb := HB.out.trans ((undrew hb).mono HB.out.size); obtain ⟨d0, d1, d2⟩ := HC.out w1 hb; have HB1 := hide hb; clear hb))
      clear c0 c1 c2 HB HC HT
      have e1 : ((K : Int) + 1 != ((K + 1 : Nat) : Int)) = false := by simp
      have e2 : ((K : Int) + 1 + 1 != ((K + 2 : Nat) : Int)) = false := by simp; omega
      go_wp2
      go_roundw
      case rel => exact ⟨m + 1, by omega, by go_num, by rw [HK.out]; go_num, HB1.out⟩
      case measure => simp [intOf]; omega
    · have e : Hid (m = n) := by show m = n; omega
      have HX := hide B
      clear B
      go_wp2
      go_ret
      exact ⟨ret_int (by rw [e.out]), HX.out⟩
end Go.Proofs.Ytngdgogjlpjjpac

namespace Go.Proofs.Ytngdgogjlpjjpac
open Go.RowKit
set_option linter.unusedVariables false
set_option linter.unusedSimpArgs false
set_option maxRecDepth 100000

/-- the blocks of the rows -/
def Sr (f : Nat → Option Addr × Nat × Nat) (n j : Nat) : Prop := ∃ i, i < n ∧ (Value.slice (f i).1 (f i).2.1 (f i).2.2).ownBlock = some j
/-- rows of rows, whose heads lie elsewhere -/
structure Rr (w : World) (base : Nat) (a : Option Addr) (n : Nat) (f : Nat → Option Addr × Nat × Nat) (X : Nat → List Int) : Prop where
  head : n ≠ 0 → ∃ g cs, a = some ⟨g, 0, none⟩ ∧ ¬ Sr f n g ∧ Blk w g cs 46 ∧ ∀ i, i < n → cs[i]? = some (.slice (f i).1 (f i).2.1 (f i).2.2)
  rows : ∀ i, i < n → OI w base (.slice (f i).1 (f i).2.1 (f i).2.2) (X i)
  apart : ∀ i j, i < n → j < n → i ≠ j → ∀ k, (Value.slice (f i).1 (f i).2.1 (f i).2.2).ownBlock = some k → (Value.slice (f j).1 (f j).2.1 (f j).2.2).ownBlock ≠ some k
/-- the marked rows -/
def mrk (k : Nat) (f : Nat → Option Addr × Nat × Nat) (i : Nat) : List Int := marksI (k + sumB f i) (f i).2.1
theorem Rr.kept {w w' : World} {base : Nat} {a : Option Addr} {n : Nat} {f : Nat → Option Addr × Nat × Nat} {X : Nat → List Int} {S : Nat → Prop} (h : Rr w base a n f X) (t : Turn S w w') (hs : ∀ i, i < n → ∀ k, (Value.slice (f i).1 (f i).2.1 (f i).2.2).ownBlock = some k → ¬ S k) (hh : n ≠ 0 → ∀ g cs, a = some ⟨g, 0, none⟩ → Blk w g cs 46 → ¬ S g) : Rr w' base a n f X :=
  ⟨fun hn => by obtain ⟨g, cs, ha, h1, h2, h3⟩ := h.head hn; exact ⟨g, cs, ha, h1, turn_blk t h2 (hh hn g cs ha h2), h3⟩, fun i hi => turn_oi t (h.rows i hi) (hs i hi), h.apart⟩

set_option maxHeartbeats 2000000 in
theorem markIntSS_any (a : Option Addr) (n cap k base : Nat) (f : Nat → Option Addr × Nat × Nat) (X : Nat → List Int) (w : World) (h : Rr w base a n f X) (hn : n ≤ 1048576) (hs : sumB f n ≤ 1048576) (hk : k ≤ 2097152) :
    Calls Try.prog 98 #[.slice a n cap, .int .i64 k] w fun e w' => e = .returned (.int .i64 ((k + sumB f n : Nat) : Int)) ∧ Rr w' base a n f (mrk k f) ∧ Turn (Sr f n) w w' := by
  have HH := hide h
  clear h
  go_enter Try.func98, Try.ntmps98
  go_wp2
  go_loopw [1, 5] (fun x i wr => ∃ m : Nat, m ≤ n ∧ i = .int .i64 m ∧ x = .int .i64 ((k + sumB f m : Nat) : Int) ∧ Rr wr base a n f (fun i => if i < m then mrk k f i else X i) ∧ Turn (Sr f n) w wr) (fun _ i _ => n - (intOf i).toNat)
  case atStart => exact ⟨0, Nat.zero_le _, rfl, rfl, HH.out, Turn.refl _ _⟩
  case round =>
    obtain ⟨m, hm, rfl, rfl, R, T⟩ := hrel
    by_cases hlt : m < n
    · have hlt' : (m : Int) < (n : Int) := by omega
      obtain ⟨g, cs, rfl, hng, hb, hc⟩ := R.head (by omega)
      have c0 := (hb.cell m).trans (hc m hlt)
      have hle := sumB_le f n m hlt
      have hr := R.rows m hlt
      simp only [Nat.lt_irrefl, if_false] at hr
      have HMK := hide (markIntS_any (f m).1 (f m).2.1 (f m).2.2 base (X m) (k + sumB f m) wr hr (by omega) (by omega))
      have HFIN := hide (fun (w1 : World) (O1 : OI w1 base (.slice (f m).1 (f m).2.1 (f m).2.2) (marksI (k + sumB f m) (f m).2.1)) (T1 : Turn (fun j => (Value.slice (f m).1 (f m).2.1 (f m).2.2).ownBlock = some j) wr w1) => show Rr w1 base (some ⟨g, 0, none⟩) n f (fun i => if i < m + 1 then mrk k f i else X i) ∧ Turn (Sr f n) w w1 from by
        refine ⟨⟨fun _ => ⟨g, cs, rfl, hng, turn_blk T1 hb (fun e => hng ⟨m, hlt, e⟩), hc⟩, fun i hi => ?_, R.apart⟩, T.trans (T1.mono (fun j hj => ⟨m, hlt, hj⟩))⟩
        by_cases e : i = m
        · subst e
          simp only [show i < i + 1 by omega, if_true]
          exact O1
        · have hi' := turn_oi T1 (R.rows i hi) (fun q hq hq' => R.apart i m hi hlt e q hq hq')
          by_cases e2 : i < m
          · simp only [e2, if_true, show i < m + 1 by omega] at hi' ⊢
            exact hi'
          · simp only [e2, if_false, show ¬ i < m + 1 by omega] at hi' ⊢
            exact hi')
      have HSU := hide (show sumB f (m + 1) = sumB f m + (f m).2.1 from rfl)
      clear R T hb hc hr
      generalize sumB f m = sm at *
      generalize f m = fm at *
      obtain ⟨fa, fn, fc⟩ := fm
      dsimp only at *
      go_wp2_with fail
      refine HMK.out.mono ?_
      rintro e w1 ⟨rfl, O1, T1⟩
      have HX := hide (HFIN.out w1 O1 T1)
      clear O1 T1 HFIN HMK c0
      go_wp2
      go_roundw
      case rel => exact ⟨m + 1, by omega, by go_num, by rw [HSU.out]; go_num, HX.out.1, HX.out.2⟩
      case measure => simp [intOf]; omega
    · have e : Hid (m = n) := by show m = n; omega
      have HX := hide (And.intro R T)
      clear R T
      go_wp2
      go_ret
      refine ⟨ret_int (by rw [e.out]), ?_, HX.out.2⟩
      have R := HX.out.1
      refine ⟨R.head, fun i hi => ?_, R.apart⟩
      have := R.rows i hi
      rw [e.out] at this
      simp only [hi, if_true] at this
      exact this

set_option maxHeartbeats 2000000 in
theorem heldIntSS_any (a : Option Addr) (n cap k base : Nat) (f : Nat → Option Addr × Nat × Nat) (w : World) (h : Rr w base a n f (mrk k f)) (hn : n ≤ 1048576) (hs : sumB f n ≤ 1048576) (hk : k ≤ 2097152) :
    Calls Try.prog 102 #[.slice a n cap, .int .i64 k] w fun e w' => e = .returned (.int .i64 ((k + sumB f n : Nat) : Int)) ∧ w = w' := by
  have HH := hide h
  clear h
  go_enter Try.func102, Try.ntmps102
  go_wp2
  go_loop [1, 5] (fun x i => ∃ m : Nat, m ≤ n ∧ i = .int .i64 m ∧ x = .int .i64 ((k + sumB f m : Nat) : Int)) (fun _ i => n - (intOf i).toNat)
  case atStart => exact ⟨0, Nat.zero_le _, rfl, rfl⟩
  case round =>
    obtain ⟨m, hm, rfl, rfl⟩ := hrel
    by_cases hlt : m < n
    · have hlt' : (m : Int) < (n : Int) := by omega
      obtain ⟨g, cs, rfl, hng, hb, hc⟩ := HH.out.head (by omega)
      have c0 := (hb.cell m).trans (hc m hlt)
      have hle := sumB_le f n m hlt
      have hr := (HH.out.rows m hlt).is
      unfold mrk at hr
      have HMK := hide (heldIntS_any (f m).1 (f m).2.1 (f m).2.2 (k + sumB f m) w hr (by omega) (by omega))
      have HSU := hide (show sumB f (m + 1) = sumB f m + (f m).2.1 from rfl)
      clear hb hc hr
      generalize sumB f m = sm at *
      generalize f m = fm at *
      obtain ⟨fa, fn, fc⟩ := fm
      dsimp only at *
      go_wp2_with fail
      refine HMK.out.mono ?_
      rintro e w1 ⟨rfl, rfl⟩
      have hnn : ¬ (((k + sm + fn : Nat) : Int) < 0) := by omega
      clear HMK
      go_wp2
      go_round
      case rel => exact ⟨m + 1, by omega, by go_num, by rw [HSU.out]; go_num⟩
      case measure => simp [intOf]; omega
    · have e : Hid (m = n) := by show m = n; omega
      go_wp2
      go_ret
      exact ⟨ret_int (by rw [e.out]), rfl⟩
end Go.Proofs.Ytngdgogjlpjjpac
