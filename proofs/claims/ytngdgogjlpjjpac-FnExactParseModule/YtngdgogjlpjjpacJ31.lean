import Derived.Test.YtngdgogjlpjjpacJ03
import Derived.Test.YtngdgogjlpjjpacJ04
import Derived.Test.YtngdgogjlpjjpacJ30
namespace Go.Proofs.Ytngdgogjlpjjpac
open Go.RowKit
set_option linter.unusedVariables false
set_option linter.unusedSimpArgs false
set_option maxRecDepth 100000

theorem ogT_set {w : World} {base g n c : Nat} {ss : List ByteArray} (h : OG 9 1 clT w base (.slice (some ⟨g, 0, none⟩) n c) ss) (i : Nat) (hi : i < n) (s : ByteArray) : OG 9 1 clT (w.setCell ⟨g, i, none⟩ (.string s)) base (.slice (some ⟨g, 0, none⟩) n c) (ss.set i s) := by
  unfold OG at *
  rw [flat_clT] at *
  obtain ⟨hl, ⟨h0, _⟩ | ⟨g', cap', cur, hv, hg, hh, h1, h2, h3, h4⟩⟩ := h
  · simp at h0
  · simp at hv
    obtain ⟨rfl, rfl, rfl⟩ := hv
    refine ⟨by simp, .inr ⟨g, c, cur.setIfInBounds i (.string s), by simp, hg, Blk.set (w := w) hh i _, by simpa using h1, h2, by simpa using h3, ?_⟩⟩
    rw [List.length_set, Array.toList_setIfInBounds, List.take_set, h4, List.map_set]
def marksT (k n : Nat) : List ByteArray := (List.range n).map fun i => mtx (k + i)
def mixedT (zs : List ByteArray) (k m : Nat) : List ByteArray := (List.range zs.length).map fun i => if i < m then mtx (k + i) else zs.getD i zS
theorem mixedT_zero (zs : List ByteArray) (k : Nat) : mixedT zs k 0 = zs := by
  apply List.ext_getElem
  · simp [mixedT]
  · intro i h1 h2; simp [mixedT, h2]
theorem mixedT_all (zs : List ByteArray) (k : Nat) : mixedT zs k zs.length = marksT k zs.length := by
  apply List.ext_getElem
  · simp [mixedT, marksT]
  · intro i h1 h2
    simp [marksT] at h2
    simp [mixedT, marksT, h2]
theorem mixedT_set (zs : List ByteArray) (k m : Nat) (h : m < zs.length) : (mixedT zs k m).set m (mtx (k + m)) = mixedT zs k (m + 1) := by
  apply List.ext_getElem
  · simp [mixedT]
  · intro i h1 h2
    simp only [mixedT, List.getElem_set, List.getElem_map, List.getElem_range]
    by_cases hik : m = i
    · subst hik; simp
    · by_cases h3 : i < m
      · simp [hik, h3, show i < m + 1 by omega]
      · simp [hik, h3, show ¬ i < m + 1 by omega]

set_option maxHeartbeats 1000000 in
theorem markStringS_some (g n cap base : Nat) (zs : List ByteArray) (k : Nat) (w : World) (h : OG 9 1 clT w base (.slice (some ⟨g, 0, none⟩) n cap) zs) (hn : n ≤ 1048576) (h0 : 0 < k) (hk : k ≤ 4194304) :
    Calls Try.prog 99 #[.slice (some ⟨g, 0, none⟩) n cap, .int .i64 k] w fun e w' => e = .returned (.int .i64 ((k + n : Nat) : Int)) ∧ OG 9 1 clT w' base (.slice (some ⟨g, 0, none⟩) n cap) (marksT k n) ∧ Turn (fun j => j = g) w w' := by
  have hl := (og_parts h).1
  go_enter Try.func99, Try.ntmps99
  go_wp2
  go_loopw [1, 5] (fun x i wr => ∃ m : Nat, m ≤ n ∧ i = .int .i64 m ∧ x = .int .i64 ((k + m : Nat) : Int) ∧ OG 9 1 clT wr base (.slice (some ⟨g, 0, none⟩) n cap) (mixedT zs k m) ∧ Turn (fun j => j = g) w wr) (fun _ i _ => n - (intOf i).toNat)
  case atStart => exact ⟨0, Nat.zero_le _, rfl, rfl, by rw [mixedT_zero]; exact h, Turn.refl _ _⟩
  case round =>
    obtain ⟨m, hm, rfl, rfl, O, T⟩ := hrel
    by_cases hlt : m < n
    · have hlt' : (m : Int) < (n : Int) := by omega
      have HT := hide (markText_is (k + m) wr (by omega) (by omega))
      go_wp2_with fail
      refine HT.out.mono ?_
      rintro e w1 ⟨rfl, hb⟩
      have O1 := O.below hb
      have T1 := T.trans (turn_below hb)
      have hsl : Sl (fun j => j = g) w1 (some ⟨g, 0, none⟩) n 1 := by
        obtain ⟨_, ⟨h0', _⟩ | ⟨g', cap', cur, hv, _, hh, h1, _, h3, _⟩⟩ := O1
        · simp at h0'
        · simp at hv
          obtain ⟨rfl, rfl, rfl⟩ := hv
          refine Sl.ofBlk (c := 0) hh rfl ?_
          simp at h1 h3
          omega
      obtain ⟨⟨u, c0⟩, f0, _⟩ := hsl.cell (by omega) m (by omega)
      rw [Nat.zero_add] at c0 f0
      have O2 := ogT_set O1 m hlt (mtx (k + m))
      rw [mixedT_set zs k m (by omega)] at O2
      have T2 := T1.trans (turn_set w1 g m (.string (mtx (k + m))))
      have HX := hide (And.intro O2 T2)
      clear O T O1 T1 O2 T2 hb HT hsl
      go_wp2
      go_roundw
      case rel => exact ⟨m + 1, by omega, by go_num, by go_num, HX.out.1, HX.out.2⟩
      case measure => simp [intOf]; omega
    · have e : Hid (m = n) := by show m = n; omega
      have HX := hide (And.intro O T)
      clear O T
      go_wp2
      go_ret
      refine ⟨ret_int (by rw [e.out]), ?_, HX.out.2⟩
      have := HX.out.1
      rw [e.out, ← hl, mixedT_all] at this
      rw [hl] at this
      exact this
end Go.Proofs.Ytngdgogjlpjjpac

namespace Go.Proofs.Ytngdgogjlpjjpac
open Go.RowKit
set_option linter.unusedVariables false
set_option linter.unusedSimpArgs false
set_option maxRecDepth 100000

/-- a row stays where its block is left alone -/
theorem OG.kept {α : Type} {t : TypeId} {sz : Nat} {f : α → List Value} {S : Nat → Prop} {w w' : World} {base : Nat} {v : Value} {xs : List α} (h : OG t sz f w base v xs) (ht : Turn S w w') (hk : ∀ k, v.ownBlock = some k → ¬ S k) : OG t sz f w' base v xs := by
  obtain ⟨hl, h0 | ⟨g, cap, cur, hv, hg, hh, h1, h2, h3, h4⟩⟩ := h
  · exact ⟨hl, .inl h0⟩
  · exact ⟨hl, .inr ⟨g, cap, cur, hv, hg, turn_blk (w := w) ht hh (hk g (by rw [hv]; rfl)), h1, h2, h3, h4⟩⟩
theorem og_addr {α : Type} {t : TypeId} {sz : Nat} {f : α → List Value} {w : World} {base n c : Nat} {a : Option Addr} {xs : List α} (h : OG t sz f w base (.slice a n c) xs) (hn : n ≠ 0) : ∃ g, a = some ⟨g, 0, none⟩ := by
  obtain ⟨_, _, _, h4⟩ := og_parts h
  obtain ⟨g, hg, _⟩ := h4 hn
  exact ⟨g, hg⟩
set_option maxHeartbeats 1000000 in
theorem markStringS_zero (a : Option Addr) (cap k : Nat) (w : World) :
    Calls Try.prog 99 #[.slice a 0 cap, .int .i64 k] w fun e w' => e = .returned (.int .i64 k) ∧ w = w' := by
  go_enter Try.func99, Try.ntmps99
  go_wp2
  go_loop [1, 5] (fun x i => i = .int .i64 0 ∧ x = .int .i64 k) (fun _ _ => 0)
  case atStart => exact ⟨rfl, rfl⟩
  case round =>
    obtain ⟨rfl, rfl⟩ := hrel
    go_wp2
    go_ret
    exact ⟨rfl, rfl⟩
theorem markStringS_any (a : Option Addr) (n cap base : Nat) (zs : List ByteArray) (k : Nat) (w : World) (h : OG 9 1 clT w base (.slice a n cap) zs) (hn : n ≤ 1048576) (h0 : 0 < k) (hk : k ≤ 4194304) :
    Calls Try.prog 99 #[.slice a n cap, .int .i64 k] w fun e w' => e = .returned (.int .i64 ((k + n : Nat) : Int)) ∧ OG 9 1 clT w' base (.slice a n cap) (marksT k n) ∧ Turn (fun j => (Value.slice a n cap).ownBlock = some j) w w' := by
  by_cases h1 : n = 0
  · subst h1
    refine (markStringS_zero a cap k w).mono fun e w' he => ?_
    obtain ⟨rfl, rfl⟩ := he
    have hz : zs = [] := List.eq_nil_of_length_eq_zero (og_parts h).1
    subst hz
    exact ⟨rfl, h, Turn.refl _ _⟩
  · obtain ⟨g, rfl⟩ := og_addr h h1
    refine (markStringS_some g n cap base zs k w h hn h0 hk).mono fun e w' he => ⟨he.1, he.2.1, he.2.2.mono ?_⟩
    intro j hj
    subst hj
    rfl
theorem marksT_at (k n m : Nat) (h : m < n) : ((marksT k n).flatMap clT)[m]? = some (.string (mtx (k + m))) := by
  rw [flat_clT]
  simp [marksT, h]
theorem ogT_at {w : World} {base g n c : Nat} {xs : List ByteArray} (h : OG 9 1 clT w base (.slice (some ⟨g, 0, none⟩) n c) xs) (m : Nat) (u : Value) (hu : (xs.flatMap clT)[m]? = some u) : ∀ W, Below w.heap.size w W → W.cell? ⟨g, m, none⟩ = some u := fun W hb => by
  have O := OG.below h hb
  obtain ⟨hl, _, _, h4⟩ := og_parts O
  have hn : n ≠ 0 := fun e => by
    subst e
    have : xs = [] := List.eq_nil_of_length_eq_zero hl
    subst this
    simp at hu
  obtain ⟨g', hg', hc⟩ := h4 hn
  simp at hg'
  subst hg'
  exact hc m u hu
theorem marksT_len (k n : Nat) : (marksT k n).length = n := by simp [marksT]

set_option maxHeartbeats 1000000 in
theorem heldStringS_any (a : Option Addr) (n cap base : Nat) (k : Nat) (w : World) (h : OG 9 1 clT w base (.slice a n cap) (marksT k n)) (hn : n ≤ 1048576) (h0 : 0 < k) (hk : k ≤ 4194304) :
    Calls Try.prog 104 #[.slice a n cap, .int .i64 k] w fun e w' => e = .returned (.int .i64 ((k + n : Nat) : Int)) ∧ Below w.heap.size w w' := by
  have HO := hide h
  clear h
  go_enter Try.func104, Try.ntmps104
  go_wp2
  go_loopw [1, 5] (fun x i wr => ∃ m : Nat, m ≤ n ∧ i = .int .i64 m ∧ x = .int .i64 ((k + m : Nat) : Int) ∧ Below w.heap.size w wr) (fun _ i _ => n - (intOf i).toNat)
  case atStart => exact ⟨0, Nat.zero_le _, rfl, rfl, Below.refl _ _⟩
  case round =>
    obtain ⟨m, hm, rfl, rfl, B⟩ := hrel
    by_cases hlt : m < n
    · have hlt' : (m : Int) < (n : Int) := by omega
      obtain ⟨g, rfl⟩ := og_addr HO.out (by omega)
      have HC0 := ogT_at HO.out m _ (marksT_at k n m hlt)
      have HT := hide (fun W => markText_is (k + m) W (by omega) (by omega))
      have HKM := hide (show (((k + m : Nat) : Int)) + 1 = ((k + (m + 1) : Nat) : Int) by omega)
      obtain ⟨s, hs⟩ : ∃ s, s = mtx (k + m) := ⟨_, rfl⟩
      rw [← hs] at HC0 HT
      have HC := hide HC0
      clear hs HC0
      have c0 := HC.out wr B
      have hne : (s.toList != s.toList) = false := by simp
      have HB := hide B
      clear B
      go_wp2_with fail
      go_region_held3 (fun w' => w'.cell? ⟨g, m, none⟩ = some (.string s)) (go_keep) (first
        | (go_at_call 136; refine (HT.out _).mono ?_; rintro e w1 ⟨rfl, hb⟩; replace hb := HB.out.trans ((undrew hb).mono HB.out.size); have c1 := HC.out w1 hb; have HB1 := hide hb; clear hb))
      clear c0 HB HC HT
      go_wp2
      go_roundw
      case rel => exact ⟨m + 1, by omega, by go_num, by go_num, HB1.out⟩
      case measure => simp [intOf]; omega
    · have e : Hid (m = n) := by show m = n; omega
      have HX := hide B
      clear B
      go_wp2
      go_ret
      exact ⟨ret_int (by rw [e.out]), HX.out⟩
end Go.Proofs.Ytngdgogjlpjjpac
