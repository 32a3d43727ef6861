import Derived.Test.YtngdgogjlpjjpaeGreatJ35
import Derived.Test.YtngdgogjlpjjpaeGreatJ34
import Derived.Test.YtngdgogjlpjjpaeGreatJ16
namespace Go.Proofs.YtngdgogjlpjjpaeGreat
open Go.RowKit
set_option linter.unusedVariables false
set_option linter.unusedSimpArgs false
set_option maxRecDepth 100000

/-- the blocks of the rows -/
def Sr (f : Nat → Option Addr × Nat × Nat) (n j : Nat) : Prop := ∃ i, i < n ∧ (Value.slice (f i).1 (f i).2.1 (f i).2.2).ownBlock = some j
/-- rows of rows, whose heads lie elsewhere -/
structure Rr (w : World) (base : Nat) (a : Option Addr) (n : Nat) (f : Nat → Option Addr × Nat × Nat) (X : Nat → List Int) : Prop where
  head : n ≠ 0 → ∃ g cs, a = some ⟨g, 0, none⟩ ∧ ¬ Sr f n g ∧ Blk w g cs 24 ∧ ∀ i, i < n → cs[i]? = some (.slice (f i).1 (f i).2.1 (f i).2.2)
  rows : ∀ i, i < n → OI w base (.slice (f i).1 (f i).2.1 (f i).2.2) (X i)
  apart : ∀ i j, i < n → j < n → i ≠ j → ∀ k, (Value.slice (f i).1 (f i).2.1 (f i).2.2).ownBlock = some k → (Value.slice (f j).1 (f j).2.1 (f j).2.2).ownBlock ≠ some k
/-- the marked rows -/
def mrk (k : Nat) (f : Nat → Option Addr × Nat × Nat) (i : Nat) : List Int := marksI (k + sumB f i) (f i).2.1
theorem Rr.kept {w w' : World} {base : Nat} {a : Option Addr} {n : Nat} {f : Nat → Option Addr × Nat × Nat} {X : Nat → List Int} {S : Nat → Prop} (h : Rr w base a n f X) (t : Turn S w w') (hs : ∀ i, i < n → ∀ k, (Value.slice (f i).1 (f i).2.1 (f i).2.2).ownBlock = some k → ¬ S k) (hh : n ≠ 0 → ∀ g cs, a = some ⟨g, 0, none⟩ → Blk w g cs 24 → ¬ S g) : Rr w' base a n f X :=
  ⟨fun hn => by obtain ⟨g, cs, ha, h1, h2, h3⟩ := h.head hn; exact ⟨g, cs, ha, h1, turn_blk t h2 (hh hn g cs ha h2), h3⟩, fun i hi => turn_oi t (h.rows i hi) (hs i hi), h.apart⟩

set_option maxHeartbeats 2000000 in
theorem markIntSS_any (a : Option Addr) (n cap k base : Nat) (f : Nat → Option Addr × Nat × Nat) (X : Nat → List Int) (w : World) (h : Rr w base a n f X) (hn : n ≤ 1048576) (hs : sumB f n ≤ 1048576) (hk : k ≤ 2097152) :
    Calls Tryz.prog 91 #[.slice a n cap, .int .i64 k] w fun e w' => e = .returned (.int .i64 ((k + sumB f n : Nat) : Int)) ∧ Rr w' base a n f (mrk k f) ∧ Turn (Sr f n) w w' := by
  have HH := hide h
  clear h
  go_enter Tryz.func91, Tryz.ntmps91
  go_wp2
  go_loopw [1, 5] (fun x i wr => ∃ m : Nat, m ≤ n ∧ i = .int .i64 m ∧ x = .int .i64 ((k + sumB f m : Nat) : Int) ∧ Rr wr base a n f (fun i => if i < m then mrk k f i else X i) ∧ Turn (Sr f n) w wr) (fun _ i _ => n - (intOf i).toNat)
  case atStart => exact ⟨0, Nat.zero_le _, rfl, rfl, HH.out, Turn.refl _ _⟩
  case round =>
    obtain ⟨m, hm, rfl, rfl, R, T⟩ := hrel
    by_cases hlt : m < n
    · have hlt' : (m : Int) < (n : Int) := by omega
      obtain ⟨g, cs, rfl, hng, hb, hc⟩ := R.head (by omega)
      have c0 := (hb.cell m).trans (hc m hlt)
      have hle := sumB_le f n m hlt
      have hr := R.rows m hlt
      simp only [Nat.lt_irrefl, if_false] at hr
      have HMK := hide (markIntS_any (f m).1 (f m).2.1 (f m).2.2 base (X m) (k + sumB f m) wr hr (by omega) (by omega))
      have HFIN := hide (fun (w1 : World) (O1 : OI w1 base (.slice (f m).1 (f m).2.1 (f m).2.2) (marksI (k + sumB f m) (f m).2.1)) (T1 : Turn (fun j => (Value.slice (f m).1 (f m).2.1 (f m).2.2).ownBlock = some j) wr w1) => show Rr w1 base (some ⟨g, 0, none⟩) n f (fun i => if i < m + 1 then mrk k f i else X i) ∧ Turn (Sr f n) w w1 from by
        refine ⟨⟨fun _ => ⟨g, cs, rfl, hng, turn_blk T1 hb (fun e => hng ⟨m, hlt, e⟩), hc⟩, fun i hi => ?_, R.apart⟩, T.trans (T1.mono (fun j hj => ⟨m, hlt, hj⟩))⟩
        by_cases e : i = m
        · subst e
          simp only [show i < i + 1 by omega, if_true]
          exact O1
        · have hi' := turn_oi T1 (R.rows i hi) (fun q hq hq' => R.apart i m hi hlt e q hq hq')
          by_cases e2 : i < m
          · simp only [e2, if_true, show i < m + 1 by omega] at hi' ⊢
            exact hi'
          · simp only [e2, if_false, show ¬ i < m + 1 by omega] at hi' ⊢
            exact hi')
      have HSU := hide (show sumB f (m + 1) = sumB f m + (f m).2.1 from rfl)
      clear R T hb hc hr
      generalize sumB f m = sm at *
      generalize f m = fm at *
      obtain ⟨fa, fn, fc⟩ := fm
      dsimp only at *
      go_wp2_with fail
      refine HMK.out.mono ?_
      rintro e w1 ⟨rfl, O1, T1⟩
      have HX := hide (HFIN.out w1 O1 T1)
      clear O1 T1 HFIN HMK c0
      go_wp2
      go_roundw
      case rel => exact ⟨m + 1, by omega, by go_num, by rw [HSU.out]; go_num, HX.out.1, HX.out.2⟩
      case measure => simp [intOf]; omega
    · have e : Hid (m = n) := by show m = n; omega
      have HX := hide (And.intro R T)
      clear R T
      go_wp2
      go_ret
      refine ⟨ret_int (by rw [e.out]), ?_, HX.out.2⟩
      have R := HX.out.1
      refine ⟨R.head, fun i hi => ?_, R.apart⟩
      have := R.rows i hi
      rw [e.out] at this
      simp only [hi, if_true] at this
      exact this

set_option maxHeartbeats 2000000 in
theorem heldIntSS_any (a : Option Addr) (n cap k base : Nat) (f : Nat → Option Addr × Nat × Nat) (w : World) (h : Rr w base a n f (mrk k f)) (hn : n ≤ 1048576) (hs : sumB f n ≤ 1048576) (hk : k ≤ 2097152) :
    Calls Tryz.prog 191 #[.slice a n cap, .int .i64 k] w fun e w' => e = .returned (.int .i64 ((k + sumB f n : Nat) : Int)) ∧ w = w' := by
  have HH := hide h
  clear h
  go_enter Tryz.func191, Tryz.ntmps191
  go_wp2
  go_loop [1, 5] (fun x i => ∃ m : Nat, m ≤ n ∧ i = .int .i64 m ∧ x = .int .i64 ((k + sumB f m : Nat) : Int)) (fun _ i => n - (intOf i).toNat)
  case atStart => exact ⟨0, Nat.zero_le _, rfl, rfl⟩
  case round =>
    obtain ⟨m, hm, rfl, rfl⟩ := hrel
    by_cases hlt : m < n
    · have hlt' : (m : Int) < (n : Int) := by omega
      obtain ⟨g, cs, rfl, hng, hb, hc⟩ := HH.out.head (by omega)
      have c0 := (hb.cell m).trans (hc m hlt)
      have hle := sumB_le f n m hlt
      have hr := (HH.out.rows m hlt).is
      unfold mrk at hr
      have HMK := hide (heldIntS_any (f m).1 (f m).2.1 (f m).2.2 (k + sumB f m) w hr (by omega) (by omega))
      have HSU := hide (show sumB f (m + 1) = sumB f m + (f m).2.1 from rfl)
      clear hb hc hr
      generalize sumB f m = sm at *
      generalize f m = fm at *
      obtain ⟨fa, fn, fc⟩ := fm
      dsimp only at *
      go_wp2_with fail
      refine HMK.out.mono ?_
      rintro e w1 ⟨rfl, rfl⟩
      have hnn : ¬ (((k + sm + fn : Nat) : Int) < 0) := by omega
      clear HMK
      go_wp2
      go_round
      case rel => exact ⟨m + 1, by omega, by go_num, by rw [HSU.out]; go_num⟩
      case measure => simp [intOf]; omega
    · have e : Hid (m = n) := by show m = n; omega
      go_wp2
      go_ret
      exact ⟨ret_int (by rw [e.out]), rfl⟩
end Go.Proofs.YtngdgogjlpjjpaeGreat

namespace Go.Proofs.YtngdgogjlpjjpaeGreat
open Go.RowKit
set_option linter.unusedVariables false
set_option linter.unusedSimpArgs false
set_option maxRecDepth 100000

abbrev Rw3 := Option Addr × Nat × Nat
def svR (r : Rw3) : Value := .slice r.1 r.2.1 r.2.2
/-- how many marks the first places take -/
def sumP (f : Nat → Rw3) : Nat → Nat
  | 0 => 0
  | n + 1 => sumP f n + ((f n).2.1 + 3)
theorem sumP_le (f : Nat → Rw3) : ∀ n i, i < n → (f i).2.1 + 3 + sumP f i ≤ sumP f n
  | 0, i, h => by omega
  | n + 1, i, h => by
    show _ ≤ sumP f n + ((f n).2.1 + 3)
    by_cases e : i = n
    · subst e; omega
    · have := sumP_le f n i (by omega); omega
/-- the cells of a place -/
def Ar4 (cs : Array Value) (o : Nat) (v : Int × Int × Int) (r : Rw3) : Prop := cs[o]? = some (.int .i64 v.1) ∧ cs[o + 1]? = some (svR r) ∧ cs[o + 2]? = some (.int .i64 v.2.1) ∧ cs[o + 3]? = some (.int .i64 v.2.2)
theorem get_lt {cs : Array Value} {i : Nat} {u : Value} (h : cs[i]? = some u) : i < cs.size := by
  rcases Nat.lt_or_ge i cs.size with h1 | h1
  · exact h1
  · rw [Array.getElem?_eq_none h1] at h; cases h
theorem ar_other {cs : Array Value} {i j : Nat} {u v : Value} (h : cs[j]? = some u) (hn : i ≠ j) : (cs.setIfInBounds i v)[j]? = some u := by
  rw [Array.getElem?_setIfInBounds, if_neg hn]; exact h
theorem ar_same {cs : Array Value} {i : Nat} {u v : Value} (h : cs[i]? = some u) : (cs.setIfInBounds i v)[i]? = some v := by
  rw [Array.getElem?_setIfInBounds, if_pos rfl, if_pos (get_lt h)]
theorem ar4_set {cs : Array Value} {o : Nat} {v : Int × Int × Int} {r : Rw3} (h : Ar4 cs o v r) (x y z : Int) : Ar4 (((cs.setIfInBounds o (.int .i64 x)).setIfInBounds (o + 2) (.int .i64 y)).setIfInBounds (o + 3) (.int .i64 z)) o (x, y, z) r :=
  ⟨ar_other (ar_other (ar_same h.1) (by omega)) (by omega), ar_other (ar_other (ar_other h.2.1 (by omega)) (by omega)) (by omega), ar_other (ar_same (ar_other h.2.2.1 (by omega))) (by omega), ar_same (ar_other (ar_other h.2.2.2 (by omega)) (by omega))⟩
theorem ar4_far {cs : Array Value} {o o' : Nat} {v : Int × Int × Int} {r : Rw3} (h : Ar4 cs o' v r) (hf : o' + 4 ≤ o ∨ o + 4 ≤ o') (x y z : Int) : Ar4 (((cs.setIfInBounds o (.int .i64 x)).setIfInBounds (o + 2) (.int .i64 y)).setIfInBounds (o + 3) (.int .i64 z)) o' v r :=
  ⟨ar_other (ar_other (ar_other h.1 (by omega)) (by omega)) (by omega), ar_other (ar_other (ar_other h.2.1 (by omega)) (by omega)) (by omega), ar_other (ar_other (ar_other h.2.2.1 (by omega)) (by omega)) (by omega), ar_other (ar_other (ar_other h.2.2.2 (by omega)) (by omega)) (by omega)⟩
/-- places, with any numbers in them, whose banks' rows lie elsewhere -/
structure Rp (w : World) (base : Nat) (a : Option Addr) (n : Nat) (f : Nat → Rw3) (V : Nat → Int × Int × Int) (X : Nat → List Int) : Prop where
  head : n ≠ 0 → ∃ g cs, a = some ⟨g, 0, none⟩ ∧ ¬ Sr f n g ∧ Blk w g cs 138 ∧ ∀ i, i < n → Ar4 cs (i * 4) (V i) (f i)
  rows : ∀ i, i < n → OI w base (svR (f i)) (X i)
  apart : ∀ i j, i < n → j < n → i ≠ j → ∀ k, (svR (f i)).ownBlock = some k → (svR (f j)).ownBlock ≠ some k
  hb : n ≠ 0 → ∀ g, a = some ⟨g, 0, none⟩ → base ≤ g
def mvP (k : Nat) (f : Nat → Rw3) (i : Nat) : Int × Int × Int := (((k + sumP f i : Nat) : Int), ((k + sumP f i + 1 + (f i).2.1 : Nat) : Int), ((k + sumP f i + 1 + (f i).2.1 + 1 : Nat) : Int))
def mrkP (k : Nat) (f : Nat → Rw3) (i : Nat) : List Int := marksI (k + sumP f i + 1) (f i).2.1
def Sp (a : Option Addr) (f : Nat → Rw3) (n j : Nat) : Prop := Sr f n j ∨ (n ≠ 0 ∧ ∃ g, a = some ⟨g, 0, none⟩ ∧ j = g)
theorem Rp.kept {w w' : World} {base : Nat} {a : Option Addr} {n : Nat} {f : Nat → Rw3} {V : Nat → Int × Int × Int} {X : Nat → List Int} {S : Nat → Prop} (h : Rp w base a n f V X) (t : Turn S w w') (hs : ∀ i, i < n → ∀ k, (svR (f i)).ownBlock = some k → ¬ S k) (hh : n ≠ 0 → ∀ g cs, a = some ⟨g, 0, none⟩ → Blk w g cs 138 → ¬ S g) : Rp w' base a n f V X :=
  ⟨fun hn => by obtain ⟨g, cs, ha, h1, h2, h3⟩ := h.head hn; exact ⟨g, cs, ha, h1, turn_blk t h2 (hh hn g cs ha h2), h3⟩, fun i hi => turn_oi t (h.rows i hi) (hs i hi), h.apart, h.hb⟩
theorem Rp.step {wr w1 : World} {base g n m : Nat} {f : Nat → Rw3} {V V' : Nat → Int × Int × Int} {X X' : Nat → List Int} {cs : Array Value} (h : Rp wr base (some ⟨g, 0, none⟩) n f V X) (hng : ¬ Sr f n g) (hb : Blk wr g cs 138) (hc : ∀ i, i < n → Ar4 cs (i * 4) (V i) (f i)) (hm : m < n) (x y z : Int)
    (hV : ∀ i, i ≠ m → V' i = V i) (hVm : V' m = (x, y, z)) (hX : ∀ i, i ≠ m → X' i = X i) (T1 : Turn (fun j => (svR (f m)).ownBlock = some j) (wr.setCell ⟨g, m * 4, none⟩ (.int .i64 x)) w1) (O1 : OI w1 base (svR (f m)) (X' m)) :
    Rp ((w1.setCell ⟨g, m * 4 + 2, none⟩ (.int .i64 y)).setCell ⟨g, m * 4 + 3, none⟩ (.int .i64 z)) base (some ⟨g, 0, none⟩) n f V' X' := by
  have T2 : Turn (fun j => j = g) w1 ((w1.setCell ⟨g, m * 4 + 2, none⟩ (.int .i64 y)).setCell ⟨g, m * 4 + 3, none⟩ (.int .i64 z)) := (turn_set _ _ _ _).trans (turn_set _ _ _ _)
  have T0 : Turn (fun j => j = g) wr (wr.setCell ⟨g, m * 4, none⟩ (.int .i64 x)) := turn_set _ _ _ _
  have b1 := turn_blk T1 (hb.set (m * 4) (.int .i64 x)) (fun e => hng ⟨m, hm, e⟩)
  refine ⟨fun _ => ⟨g, _, rfl, hng, (b1.set (m * 4 + 2) _).set (m * 4 + 3) _, fun i hi => ?_⟩, fun i hi => ?_, h.apart, h.hb⟩
  · by_cases e : i = m
    · subst e; rw [hVm]; exact ar4_set (hc i hi) x y z
    · rw [hV i e]; exact ar4_far (hc i hi) (by omega) x y z
  · by_cases e : i = m
    · subst e
      exact turn_oi T2 O1 (fun k hk s => hng ⟨i, hi, by rw [← s]; exact hk⟩)
    · rw [hX i e]
      have o0 := turn_oi T0 (h.rows i hi) (fun k hk s => hng ⟨i, hi, by rw [← s]; exact hk⟩)
      have o1 := turn_oi T1 o0 (fun q hq hq' => h.apart i m hi hm e q hq hq')
      exact turn_oi T2 o1 (fun k hk s => hng ⟨i, hi, by rw [← s]; exact hk⟩)

set_option maxHeartbeats 4000000 in
theorem markPlaceS_any (a : Option Addr) (n cap k base : Nat) (f : Nat → Rw3) (V : Nat → Int × Int × Int) (X : Nat → List Int) (w : World) (h : Rp w base a n f V X) (hn : n ≤ 1048576) (hs : sumP f n ≤ 1048576) (hk : k ≤ 2097152) :
    Calls Tryz.prog 95 #[.slice a n cap, .int .i64 k] w fun e w' => e = .returned (.int .i64 ((k + sumP f n : Nat) : Int)) ∧ Rp w' base a n f (mvP k f) (mrkP k f) ∧ Turn (Sp a f n) w w' := by
  have HH := hide h
  clear h
  go_enter Tryz.func95, Tryz.ntmps95
  go_wp2
  go_loopw [1, 5] (fun x i wr => ∃ m : Nat, m ≤ n ∧ i = .int .i64 m ∧ x = .int .i64 ((k + sumP f m : Nat) : Int) ∧ Rp wr base a n f (fun i => if i < m then mvP k f i else V i) (fun i => if i < m then mrkP k f i else X i) ∧ Turn (Sp a f n) w wr) (fun _ i _ => n - (intOf i).toNat)
  case atStart => exact ⟨0, Nat.zero_le _, rfl, rfl, HH.out, Turn.refl _ _⟩
  case round =>
    obtain ⟨m, hm, rfl, rfl, R, T⟩ := hrel
    by_cases hlt : m < n
    · have hlt' : (m : Int) < (n : Int) := by omega
      obtain ⟨g, cs, rfl, hng, hb, hc⟩ := R.head (by omega)
      have hf : ∀ i, wr.frozen? ⟨g, i, none⟩ = false := fun i => hb.frozen i
      obtain ⟨d0, d1, d2, d3⟩ := hc m hlt
      have c0 := (hb.cell (m * 4)).trans d0
      have hle := sumP_le f n m hlt
      have hr := R.rows m hlt
      simp only [Nat.lt_irrefl, if_false] at hr
      have T0 : Turn (fun j => j = g) wr (wr.setCell ⟨g, m * 4, none⟩ (.int .i64 ((k : Int) + (sumP f m : Int)))) := turn_set _ _ _ _
      have hr0 := turn_oi T0 hr (fun k hk s => hng ⟨m, hlt, by rw [← s]; exact hk⟩)
      have hb0 := hb.set (m * 4) (.int .i64 ((k : Int) + (sumP f m : Int)))
      have c1 := (hb0.cell (m * 4 + 1)).trans (ar_other d1 (by omega))
      have HMK := hide (by
        have := markIntS_any (f m).1 (f m).2.1 (f m).2.2 base (X m) (k + sumP f m + 1) _ hr0 (by omega) (by omega)
        rw [show ((k + sumP f m + 1 : Nat) : Int) = (k : Int) + (sumP f m : Int) + 1 by push_cast; rfl] at this
        exact this)
      have HCL := hide (fun (w1 : World) (T1 : Turn (fun j => (svR (f m)).ownBlock = some j) (wr.setCell ⟨g, m * 4, none⟩ (.int .i64 ((k : Int) + (sumP f m : Int)))) w1) => by
        have b1 := turn_blk T1 hb0 (fun e => hng ⟨m, hlt, e⟩)
        exact And.intro ((b1.cell (m * 4 + 2)).trans (ar_other d2 (by omega))) (And.intro ((b1.cell (m * 4 + 3)).trans (ar_other d3 (by omega))) (fun i => b1.frozen i)))
      have HFIN := hide (fun (w1 : World) (y z : Int) (hy : y = ((k + sumP f m + 1 + (f m).2.1 : Nat) : Int)) (hz : z = ((k + sumP f m + 1 + (f m).2.1 + 1 : Nat) : Int)) (O1 : OI w1 base (svR (f m)) (marksI (k + sumP f m + 1) (f m).2.1)) (T1 : Turn (fun j => (svR (f m)).ownBlock = some j) (wr.setCell ⟨g, m * 4, none⟩ (.int .i64 ((k : Int) + (sumP f m : Int)))) w1) => show Rp ((w1.setCell ⟨g, m * 4 + 2, none⟩ (.int .i64 y)).setCell ⟨g, m * 4 + 3, none⟩ (.int .i64 z)) base (some ⟨g, 0, none⟩) n f (fun i => if i < m + 1 then mvP k f i else V i) (fun i => if i < m + 1 then mrkP k f i else X i) ∧ Turn (Sp (some ⟨g, 0, none⟩) f n) w ((w1.setCell ⟨g, m * 4 + 2, none⟩ (.int .i64 y)).setCell ⟨g, m * 4 + 3, none⟩ (.int .i64 z)) from by
        refine ⟨R.step hng hb hc hlt _ y z (fun i hi => ?_) ?_ (fun i hi => ?_) T1 ?_, ?_⟩
        · by_cases e2 : i < m
          · rw [if_pos e2, if_pos (by omega)]
          · rw [if_neg e2, if_neg (by omega)]
        · rw [if_pos (by omega), hy, hz]; unfold mvP; push_cast; rfl
        · by_cases e2 : i < m
          · rw [if_pos e2, if_pos (by omega)]
          · rw [if_neg e2, if_neg (by omega)]
        · simp only [show m < m + 1 by omega, if_true]; exact O1
        · exact ((T.trans (T0.mono (fun j hj => .inr ⟨by omega, g, rfl, hj⟩))).trans (T1.mono (fun j hj => .inl ⟨m, hlt, hj⟩))).trans (((turn_set w1 g (m * 4 + 2) _).trans (turn_set _ g (m * 4 + 3) _)).mono (fun j hj => .inr ⟨by omega, g, rfl, hj⟩)))
      have HSU := hide (show sumP f (m + 1) = sumP f m + ((f m).2.1 + 3) from rfl)
      clear R T hb hc hr T0 hr0 hb0 d0 d1 d2 d3
      unfold svR at c1 HFIN HCL
      generalize sumP f m = sm at *
      generalize f m = fm at *
      obtain ⟨fa, fn, fc⟩ := fm
      dsimp only at *
      have hf0 := hf (m * 4)
      clear hf
      go_wp2_with fail
      refine HMK.out.mono ?_
      rintro e w1 ⟨rfl, O1, T1⟩
      obtain ⟨e2, e3, e4⟩ := HCL.out w1 T1
      have e42 := e4 (m * 4 + 2)
      have e43 := e4 (m * 4 + 3)
      have HX := hide (fun y z hy hz => HFIN.out w1 y z hy hz O1 T1)
      clear O1 T1 HFIN HMK c0 c1 HCL e4
      go_wp2
      go_roundw
      case rel => exact ⟨m + 1, by omega, by go_num, by rw [HSU.out]; go_num, (HX.out _ _ (by go_num) (by go_num)).1, (HX.out _ _ (by go_num) (by go_num)).2⟩
      case measure => simp [intOf]; omega
    · have e : Hid (m = n) := by show m = n; omega
      have HX := hide (And.intro R T)
      clear R T
      go_wp2
      go_ret
      refine ⟨ret_int (by rw [e.out]), ?_, HX.out.2⟩
      have R := HX.out.1
      rw [e.out] at R
      refine ⟨fun h0 => ?_, fun i hi => ?_, R.apart, R.hb⟩
      · obtain ⟨g, cs, h1, h2, h3, h4⟩ := R.head h0
        refine ⟨g, cs, h1, h2, h3, fun i hi => ?_⟩
        have := h4 i hi
        simp only [hi, if_true] at this
        exact this
      · have := R.rows i hi
        simp only [hi, if_true] at this
        exact this
end Go.Proofs.YtngdgogjlpjjpaeGreat

namespace Go.Proofs.YtngdgogjlpjjpaeGreat
open Go.RowKit
set_option linter.unusedVariables false
set_option linter.unusedSimpArgs false
set_option maxRecDepth 100000

end Go.Proofs.YtngdgogjlpjjpaeGreat

namespace Go.Proofs.YtngdgogjlpjjpaeGreat
open Go.RowKit
set_option linter.unusedVariables false
set_option linter.unusedSimpArgs false
set_option maxRecDepth 100000

/-- the heads of banks that were copied -/
def bankF (xs : List Nat) (bl : List Bk) (i : Nat) : Option Addr × Nat × Nat := (some ⟨xs.getD i 0, 0, none⟩, (bl.getD i zB).2.1, (bl.getD i zB).2.1)
theorem sumB_bank (xs : List Nat) (bl : List Bk) : ∀ n, sumB (bankF xs bl) n = upS (fun j => (bl.getD j zB).2.1) n
  | 0 => rfl
  | n + 1 => by show sumB (bankF xs bl) n + _ = upS _ n + _; rw [sumB_bank xs bl n]; rfl
/-- the rows of a module that was copied may be marked -/
theorem mod_sl {nm : ByteArray} {ta : Option Addr} {tn tc : Nat} {tz : List Int} {ba : Option Addr} {bn bc : Nat} {bl : List Bk} {da : Option Addr} {dn dc : Nat} {dz : List Int} {bss : Int} {ra : Option Addr} {rn rc : Nat} {rz : List Int} {ia : Option Addr} {im ic : Nat} {ss : List ByteArray} {ea : Option Addr} {en ec : Nat} {es : List Ex} {w W : World} {g1 g2 g3 g5 g6 g7 : Nat} {gs : List Nat} (h : MT w nm ta tn tc tz ba bn bc bl da dn dc dz bss ra rn rc rz ia im ic ss ea en ec es) (hg : gs.length = bn)
    (r1 : RowI W g1 tz) (r2 : RowB W g2 bn gs bl) (r3 : Row8 W g3 dz) (r5 : RowI W g5 rz) (r6 : RowT W g6 ss) (r7 : RowX W g7 es) {S : Nat → Prop} (s1 : S g1) (s2 : ¬ S g2) (sb : ∀ i, i < bn → S (gs.getD i 0)) (s3 : S g3) (s5 : S g5) (s6 : S g6) (s7 : S g7) :
    Sl S W (some ⟨g1, 0, none⟩) tn 1 ∧ SlB S W (some ⟨g2, 0, none⟩) bn (bankF gs bl) ∧ Sl S W (some ⟨g3, 0, none⟩) dn 1 ∧ Sl S W (some ⟨g5, 0, none⟩) rn 1 ∧ Sl S W (some ⟨g6, 0, none⟩) im 1 ∧ Sl S W (some ⟨g7, 0, none⟩) en 3 := by
  obtain ⟨⟨cur, hb, hsz, hc⟩, hr, _⟩ := r2
  obtain ⟨⟨cx, hx, hxs⟩, _⟩ := r7
  refine ⟨Sl.ofBlk (c := tc) r1 s1 (by simp [h.t.1]), ⟨fun _ => ⟨g2, 0, cur, _, rfl, s2, hb, fun i hi => by rw [Nat.zero_add]; exact hc i (by omega)⟩, fun i hi => ?_⟩, Sl.ofBlk (c := tc) r3 s3 (by simp [h.d.1]), Sl.ofBlk (c := tc) r5 s5 (by simp [h.r.1]), Sl.ofBlk (c := tc) r6 s6 (by simp [h.i.1]), Sl.ofBlk (c := tc) hx s7 (by rw [hxs, h.e.1]; exact Nat.le_refl _)⟩
  exact Sl.ofBlk (c := tc) (hr i (by omega)).1 (sb i hi) (by have e1 : (bankF gs bl i).2.1 = (bl.getD i zB).2.1 := rfl; have e2 := (h.b.2.2.2.1 i hi).1; rw [e1, List.size_toArray, List.length_map, e2]; omega)
end Go.Proofs.YtngdgogjlpjjpaeGreat
