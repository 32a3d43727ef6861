import Derived.Test.YtngdgogjlpjjpacK34
import Derived.Test.YtngdgogjlpjjpacK35
namespace Go.Proofs.Ytngdgogjlpjjpac
open Go.RowKit
set_option linter.unusedVariables false
set_option linter.unusedSimpArgs false
set_option maxRecDepth 100000

theorem cellO {w : World} {g o o' b : Nat} {v : Value} (h : b ≠ g ∨ o' ≠ o) : (w.setCell ⟨g, o, none⟩ v).cell? ⟨b, o', none⟩ = w.cell? ⟨b, o', none⟩ :=
  World.cell?_setCell_other _ _ _ _ (by intro e; injection e; rcases h with h | h <;> simp_all)
theorem cellS {w : World} {g o : Nat} {u v : Value} (h : w.cell? ⟨g, o, none⟩ = some u) : (w.setCell ⟨g, o, none⟩ v).cell? ⟨g, o, none⟩ = some v := World.cell?_setCell_same _ _ _ h
def At3 (w : World) (g o : Nat) (x : Ex) : Prop := w.cell? ⟨g, o, none⟩ = some (.string x.1) ∧ w.cell? ⟨g, o + 1, none⟩ = some (.int .i64 x.2.1) ∧ w.cell? ⟨g, o + 2, none⟩ = some (.int .i64 x.2.2)
def set3 (w : World) (g o : Nat) (x : Ex) : World := ((w.setCell ⟨g, o, none⟩ (.string x.1)).setCell ⟨g, o + 1, none⟩ (.int .i64 x.2.1)).setCell ⟨g, o + 2, none⟩ (.int .i64 x.2.2)
theorem set3_other (w : World) (g o b o' : Nat) (r : Ex) (h : b ≠ g ∨ o' < o ∨ o + 3 ≤ o') : (set3 w g o r).cell? ⟨b, o', none⟩ = w.cell? ⟨b, o', none⟩ := by
  unfold set3
  rw [cellO (by omega), cellO (by omega), cellO (by omega)]
theorem set3_at {w : World} {g o : Nat} {q : Ex} (h : At3 w g o q) (r : Ex) : At3 (set3 w g o r) g o r := by
  obtain ⟨h1, h2, h3⟩ := h
  unfold set3
  refine ⟨?_, ?_, ?_⟩
  · rw [cellO (by omega), cellO (by omega)]; exact cellS h1
  · rw [cellO (by omega)]; exact cellS (by rw [cellO (by omega)]; exact h2)
  · exact cellS (by rw [cellO (by omega), cellO (by omega)]; exact h3)
theorem set3_far {w : World} {g o b o' : Nat} {q : Ex} (h : At3 w b o' q) (r : Ex) (hf : b ≠ g ∨ o' + 3 ≤ o ∨ o + 3 ≤ o') : At3 (set3 w g o r) b o' q := by
  unfold At3
  rw [set3_other _ _ _ _ _ _ (by omega), set3_other _ _ _ _ _ _ (by omega), set3_other _ _ _ _ _ _ (by omega)]
  exact h
theorem set3_blk {w : World} {g : Nat} {cur : Array Value} {t : TypeId} (h : Blk w g cur t) (o : Nat) (r : Ex) : ∃ cur', Blk (set3 w g o r) g cur' t ∧ cur'.size = cur.size :=
  ⟨_, (((h.set o _).set (o + 1) _).set (o + 2) _), by simp⟩
theorem set3_below {B : Nat} {a w : World} (h : Below B a w) {g : Nat} (hg : B ≤ g) (o : Nat) (r : Ex) : Below B a (set3 w g o r) :=
  ((h.setCell (p := ⟨g, o, none⟩) hg _).setCell (p := ⟨g, o + 1, none⟩) hg _).setCell (p := ⟨g, o + 2, none⟩) hg _
theorem At3.below {w w' : World} {g o : Nat} {x : Ex} (h : At3 w g o x) (hb : Below w.heap.size w w') : At3 w' g o x := by
  have key : ∀ o v, w.cell? ⟨g, o, none⟩ = some v → w'.cell? ⟨g, o, none⟩ = some v := fun o v hv => (hb.cell (World.block_lt_of_cell? w _ hv)).trans hv
  exact ⟨key _ _ h.1, key _ _ h.2.1, key _ _ h.2.2⟩
/-- A ROW OF EXPORTS OF THE CALL's OWN. -/
def RowX (w : World) (g : Nat) (es : List Ex) : Prop :=
  (∃ cur, Blk w g cur 86 ∧ cur.size = es.length * 3) ∧ ∀ i, i < es.length → At3 w g (i * 3) (es.getD i zE)
theorem RowX.lt {w : World} {g : Nat} {es : List Ex} (h : RowX w g es) : g < w.heap.size := by obtain ⟨⟨cur, hb, _⟩, _⟩ := h; exact hb.lt
theorem RowX.below {w w' : World} {g : Nat} {es : List Ex} (h : RowX w g es) (hb : Below w.heap.size w w') : RowX w' g es := by
  obtain ⟨⟨cur, hc, hs⟩, hr⟩ := h
  exact ⟨⟨cur, hc.below hb, hs⟩, fun i hi => (hr i hi).below hb⟩
theorem RowX.frozen {w : World} {g : Nat} {es : List Ex} (h : RowX w g es) (i : Nat) : w.frozen? ⟨g, i, none⟩ = false := by obtain ⟨⟨cur, hb, _⟩, _⟩ := h; exact hb.frozen i
theorem RowX.set {w : World} {g : Nat} {es : List Ex} (h : RowX w g es) (i : Nat) (hi : i < es.length) (r : Ex) : RowX (set3 w g (i * 3) r) g (es.set i r) := by
  obtain ⟨⟨cur, hc, hs⟩, hr⟩ := h
  obtain ⟨cur', hc', hs'⟩ := set3_blk hc (i * 3) r
  refine ⟨⟨cur', hc', by rw [hs', hs, List.length_set]⟩, fun j hj => ?_⟩
  rw [List.length_set] at hj
  by_cases e : i = j
  · subst e
    have : (es.set i r).getD i zE = r := by simp [List.getD_eq_getElem?_getD, hi]
    rw [this]
    exact set3_at (hr i hi) r
  · have : (es.set i r).getD j zE = es.getD j zE := by simp [List.getD_eq_getElem?_getD, e]
    rw [this]
    exact set3_far (hr j hj) r (by omega)
theorem RowX.te {w w0 : World} {g n cap : Nat} {a : Option Addr} {es : List Ex} (h : RowX w g es) (k : TE w0 a n cap es) : TE w (some ⟨g, 0, none⟩) n n es := by
  obtain ⟨h1, h2, h3, h4, h5⟩ := k
  exact ⟨h1, h2, h3, fun _ => ⟨g, 0, rfl, fun i hi => by rw [Nat.zero_add]; exact h.2 i (by omega)⟩, Nat.le_refl _⟩
theorem infoX : (Try.prog.info? 86).map (fun i => (i.zero, i.size, i.bytes)) = some (some (.agg #[.string ⟨#[]⟩, .int .i64 0, .int .i64 0]), 3, 32) := by kernel_rfl
theorem rowX_of_made {w : World} {base g n : Nat} (h : w.ownsRow base 86 3 (.slice (some ⟨g, 0, none⟩) n n) n (madeCells (Value.cells (.agg #[.string ⟨#[]⟩, .int .i64 0, .int .i64 0])) (n * 3)).toList) : RowX w g (List.replicate n zE) := by
  obtain ⟨hl, h | ⟨g', cap, cur, hv, hb, hh, h1, h2, h3, h4⟩⟩ := h
  · simp at h
  · simp at hv
    obtain ⟨rfl, rfl⟩ := hv
    have e : cur.toList = (madeCells (Value.cells (.agg #[.string ⟨#[]⟩, .int .i64 0, .int .i64 0])) (n * 3)).toList := by
      rw [← h4, List.take_of_length_le (by simp [h3])]
    have e2 : cur = madeCells (Value.cells (.agg #[.string ⟨#[]⟩, .int .i64 0, .int .i64 0])) (n * 3) := Array.toList_inj.1 e
    have hB : Blk w g cur 86 := hh
    refine ⟨⟨cur, hB, by simp [h3]⟩, fun i hi => ?_⟩
    simp at hi
    have hcell : ∀ j, j < 3 → w.cell? ⟨g, i * 3 + j, none⟩ = #[Value.string ⟨#[]⟩, .int .i64 0, .int .i64 0][j]? := by
      intro j hj
      rw [hB.cell, e2]
      have hm : (i * 3 + j) % 3 = j := by omega
      simp [madeCells, Value.cells, show i * 3 + j < n * 3 by omega, hm]
      match j, hj with
      | 0, _ => rfl
      | 1, _ => rfl
      | 2, _ => rfl
    have hz : (List.replicate n zE).getD i zE = zE := by simp [List.getD_eq_getElem?_getD, hi]
    rw [hz]
    exact ⟨hcell 0 (by omega), hcell 1 (by omega), hcell 2 (by omega)⟩
def midX (es : List Ex) (k : Nat) : List Ex := (List.range es.length).map (fun i => if i < k then es.getD i zE else zE)
theorem midX_len (es : List Ex) (k : Nat) : (midX es k).length = es.length := by simp [midX]
theorem midX_zero (es : List Ex) : midX es 0 = List.replicate es.length zE := by
  apply List.ext_getElem
  · simp [midX]
  · intro i h1 h2; simp [midX]
theorem midX_all (es : List Ex) : midX es es.length = es := by
  apply List.ext_getElem
  · simp [midX]
  · intro i h1 h2; simp [midX, h2]
theorem midX_set (es : List Ex) (k : Nat) (h : k < es.length) : (midX es k).set k (es.getD k zE) = midX es (k + 1) := by
  apply List.ext_getElem
  · simp [midX]
  · intro i h1 h2
    simp only [midX, List.getElem_set, List.getElem_map, List.getElem_range]
    by_cases hik : k = i
    · subst hik; simp
    · by_cases h3 : i < k
      · simp [hik, h3, show i < k + 1 by omega]
      · simp [hik, h3, show ¬ i < k + 1 by omega]

set_option maxHeartbeats 1000000 in
theorem toExportS_any (x : Option Addr) (n cap : Nat) (es : List Ex) (w : World) (h : TE w x n cap es) (hn : n ≤ 1048576) :
    Calls Try.prog 75 #[.slice x n cap] w fun e w' => e = .returned (.slice (some ⟨w.heap.size, 0, none⟩) n n) ∧ RowX w' w.heap.size es ∧ Below w.heap.size w w' := by
  obtain ⟨i0, hi, hz0, hz1, hz2⟩ := info_parts infoX
  have hl := h.1
  go_enter Try.func75, Try.ntmps75
  go_wp2_with (at_make; refine wpList_make_full _ rfl _ _ 54 rfl w.heap.size 86 i0 (.agg #[.string ⟨#[]⟩, .int .i64 0, .int .i64 0]) 3 Try.underlying54 hi hz0 hz1 .i64 .i64 _ _ n rfl rfl rfl rfl (by rw [hz2]; omega) (by unfold maxLen; omega) (Nat.le_refl _) ?_; intro w1 hown hgr)
  have hrow := rowX_of_made hown
  have hbel := below_grown hgr
  clear hown hgr hi hz0 hz1 hz2
  go_loopw [4] (fun i wr => ∃ k : Nat, k ≤ n ∧ i = .int .i64 k ∧ RowX wr w.heap.size (midX es k) ∧ Below w.heap.size w wr) (fun i _ => n - (intOf i).toNat)
  case atStart => exact ⟨0, Nat.zero_le _, rfl, by rw [midX_zero, hl]; exact hrow, hbel⟩
  case round =>
    obtain ⟨k, hk, rfl, hR, hB⟩ := hrel
    clear hrow hbel
    by_cases hlt : k < n
    · have hlt' : (k : Int) < (n : Int) := by omega
      obtain ⟨b, off, rfl, hat⟩ := (h.below hB).at k hlt
      have hset : ∀ W, Below wr.heap.size wr W → RowX (set3 W w.heap.size (k * 3) (es.getD k zE)) w.heap.size (midX es (k + 1)) := by
        intro W hW
        have := (hR.below hW).set k (by rw [midX_len]; omega) (es.getD k zE)
        rw [midX_set es k (by omega)] at this
        exact this
      have HSET := hide hset
      clear hset
      have hg := hR.2 k (by rw [midX_len]; omega)
      generalize es.getD k zE = r at *
      generalize (midX es k).getD k zE = r0 at *
      obtain ⟨g1, g2, g3⟩ := r
      obtain ⟨q1, q2, q3⟩ := hat
      simp only at q1 q2 q3
      go_wp2_with fail
      refine (toExport_any g1 g2 g3 _).mono ?_
      rintro e w2 ⟨rfl, hb2⟩
      have hB2 := hB.trans (hb2.mono hB.size)
      have hg2 := hg.below hb2
      have hfz : ∀ i, w2.frozen? ⟨w.heap.size, i, none⟩ = false := (hR.below hb2).frozen
      have HS2 := hide (HSET.out _ hb2)
      have HB2 := hide (set3_below hB2 (Nat.le_refl _) (k * 3) (g1, g2, g3))
      clear HSET hR q1 q2 q3
      obtain ⟨p1, p2, p3⟩ := hg2
      go_wp2
      go_roundw
      case rel => exact ⟨k + 1, by omega, by go_num, HS2.out, HB2.out⟩
      case measure => simp [intOf]; omega
    · have e : Hid (k = n) := by show k = n; omega
      go_wp2
      go_ret
      exact ⟨rfl, by rw [e.out, ← hl, midX_all] at hR; exact hR, hB⟩

set_option maxHeartbeats 1000000 in
theorem eqExportS_same (x x' : Option Addr) (n cap cap' : Nat) (es : List Ex) (w : World) (h : TE w x n cap es) (h' : TE w x' n cap' es) :
    Calls Try.prog 85 #[.slice x n cap, .slice x' n cap'] w fun e w' => e = .returned (.bool true) ∧ Below w.heap.size w w' := by
  have hmx := h.2.1
  unfold maxLen at hmx
  have hne : ((n : Int) != (n : Int)) = false := by simp
  go_enter Try.func85, Try.ntmps85
  go_wp2
  go_loopw [5] (fun i wr => ∃ k : Nat, k ≤ n ∧ i = .int .i64 k ∧ Below w.heap.size w wr) (fun i _ => n - (intOf i).toNat)
  case atStart => exact ⟨0, Nat.zero_le _, rfl, Below.refl _ _⟩
  case round =>
    obtain ⟨k, hk, rfl, hB⟩ := hrel
    by_cases hlt : k < n
    · have hlt' : (k : Int) < (n : Int) := by omega
      obtain ⟨b, off, rfl, q1, q2, q3⟩ := (h.below hB).at k hlt
      obtain ⟨b', off', rfl, p1, p2, p3⟩ := (h'.below hB).at k hlt
      generalize es.getD k zE = r at *
      obtain ⟨g1, g2, g3⟩ := r
      simp only at q1 q2 q3 p1 p2 p3
      go_wp2
      go_region_held3 (fun w' => w'.cell? ⟨b, off + k * 3, none⟩ = some (.string g1) ∧ w'.cell? ⟨b, off + k * 3 + 1, none⟩ = some (.int .i64 g2) ∧ w'.cell? ⟨b, off + k * 3 + 2, none⟩ = some (.int .i64 g3) ∧
          w'.cell? ⟨b', off' + k * 3, none⟩ = some (.string g1) ∧ w'.cell? ⟨b', off' + k * 3 + 1, none⟩ = some (.int .i64 g2) ∧ w'.cell? ⟨b', off' + k * 3 + 2, none⟩ = some (.int .i64 g3)) (go_keep)
        (first
          | (go_at_call 120; refine (eqExport_same g1 g2 g3 _).mono ?_; rintro e w1 ⟨rfl, hb1⟩; replace hb1 := undrew hb1; obtain ⟨hc1, hf1⟩ := bcell hb1; have hlb := World.block_lt_of_cell? _ _ q1; have hlb' := World.block_lt_of_cell? _ _ p1))
      clear hc1 hf1 q1 q2 q3 p1 p2 p3
      go_wp2
      go_roundw
      case rel => exact ⟨k + 1, by omega, by go_num, hB.trans (hb1.mono hB.size)⟩
      case measure => simp [intOf]; omega
    · go_wp2
      go_ret
      exact ⟨rfl, hB⟩
end Go.Proofs.Ytngdgogjlpjjpac
