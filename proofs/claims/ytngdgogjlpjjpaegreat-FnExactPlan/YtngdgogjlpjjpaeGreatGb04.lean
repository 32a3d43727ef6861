import Derived.Test.YtngdgogjlpjjpaeGreatGa00
import Derived.Test.YtngdgogjlpjjpaeGreatGb02
import Derived.Test.YtngdgogjlpjjpaeGreatGb03
namespace Go.Proofs.YtngdgogjlpjjpaeGreat
open Go.RowKit
set_option linter.unusedVariables false

def set6 (w : World) (g o : Nat) (r : Rg) : World :=
  (((((w.setCell ⟨g, o, none⟩ (.int .i64 r.1)).setCell ⟨g, o + 1, none⟩ (.int .i64 r.2.1)).setCell ⟨g, o + 2, none⟩ (.int .i64 r.2.2.1)).setCell ⟨g, o + 3, none⟩ (.bool r.2.2.2.1)).setCell ⟨g, o + 4, none⟩ (.bool r.2.2.2.2.1)).setCell ⟨g, o + 5, none⟩ (.bool r.2.2.2.2.2)

theorem cell_other {w : World} {g o o' b : Nat} {v : Value} (h : b ≠ g ∨ o' ≠ o) : (w.setCell ⟨g, o, none⟩ v).cell? ⟨b, o', none⟩ = w.cell? ⟨b, o', none⟩ :=
  World.cell?_setCell_other _ _ _ _ (by intro e; injection e; rcases h with h | h <;> simp_all)
theorem cell_same {w : World} {g o : Nat} {u v : Value} (h : w.cell? ⟨g, o, none⟩ = some u) : (w.setCell ⟨g, o, none⟩ v).cell? ⟨g, o, none⟩ = some v := World.cell?_setCell_same _ _ _ h

theorem set6_other (w : World) (g o b o' : Nat) (r : Rg) (h : b ≠ g ∨ o' < o ∨ o + 6 ≤ o') : (set6 w g o r).cell? ⟨b, o', none⟩ = w.cell? ⟨b, o', none⟩ := by
  unfold set6
  rw [cell_other (by omega), cell_other (by omega), cell_other (by omega), cell_other (by omega), cell_other (by omega), cell_other (by omega)]
theorem set6_at {w : World} {g o : Nat} {q : Rg} (h : At6 w g o q) (r : Rg) : At6 (set6 w g o r) g o r := by
  obtain ⟨h1, h2, h3, h4, h5, h6⟩ := h
  unfold set6
  refine ⟨?_, ?_, ?_, ?_, ?_, ?_⟩
  · rw [cell_other (by omega), cell_other (by omega), cell_other (by omega), cell_other (by omega), cell_other (by omega)]; exact cell_same h1
  · rw [cell_other (by omega), cell_other (by omega), cell_other (by omega), cell_other (by omega)]; exact cell_same (by rw [cell_other (by omega)]; exact h2)
  · rw [cell_other (by omega), cell_other (by omega), cell_other (by omega)]; exact cell_same (by rw [cell_other (by omega), cell_other (by omega)]; exact h3)
  · rw [cell_other (by omega), cell_other (by omega)]; exact cell_same (by rw [cell_other (by omega), cell_other (by omega), cell_other (by omega)]; exact h4)
  · rw [cell_other (by omega)]; exact cell_same (by rw [cell_other (by omega), cell_other (by omega), cell_other (by omega), cell_other (by omega)]; exact h5)
  · exact cell_same (by rw [cell_other (by omega), cell_other (by omega), cell_other (by omega), cell_other (by omega), cell_other (by omega)]; exact h6)
theorem set6_far {w : World} {g o b o' : Nat} {q : Rg} (h : At6 w b o' q) (r : Rg) (hf : b ≠ g ∨ o' + 6 ≤ o ∨ o + 6 ≤ o') : At6 (set6 w g o r) b o' q := by
  unfold At6
  rw [set6_other _ _ _ _ _ _ (by omega), set6_other _ _ _ _ _ _ (by omega), set6_other _ _ _ _ _ _ (by omega), set6_other _ _ _ _ _ _ (by omega), set6_other _ _ _ _ _ _ (by omega), set6_other _ _ _ _ _ _ (by omega)]
  exact h
theorem set6_size (w : World) (g o : Nat) (r : Rg) : (set6 w g o r).heap.size = w.heap.size := by simp [set6]
theorem set6_blk {w : World} {g : Nat} {cur : Array Value} {t : TypeId} (h : Blk w g cur t) (o : Nat) (r : Rg) : ∃ cur', Blk (set6 w g o r) g cur' t ∧ cur'.size = cur.size :=
  ⟨_, ((((((h.set o _).set (o + 1) _).set (o + 2) _).set (o + 3) _).set (o + 4) _).set (o + 5) _), by simp⟩
theorem set6_below {B : Nat} {a w : World} (h : Below B a w) {g : Nat} (hg : B ≤ g) (o : Nat) (r : Rg) : Below B a (set6 w g o r) :=
  (((((h.setCell (p := ⟨g, o, none⟩) hg _).setCell (p := ⟨g, o + 1, none⟩) hg _).setCell (p := ⟨g, o + 2, none⟩) hg _).setCell (p := ⟨g, o + 3, none⟩) hg _).setCell (p := ⟨g, o + 4, none⟩) hg _).setCell (p := ⟨g, o + 5, none⟩) hg _

/-- A ROW OF REGIONS OF THE CALL's OWN: the whole block g. -/
def RowR (w : World) (g : Nat) (rs : List Rg) : Prop :=
  (∃ cur, Blk w g cur 158 ∧ cur.size = rs.length * 6) ∧ ∀ i, i < rs.length → At6 w g (i * 6) (rs.getD i z6)
theorem RowR.lt {w : World} {g : Nat} {rs : List Rg} (h : RowR w g rs) : g < w.heap.size := by obtain ⟨⟨cur, hb, _⟩, _⟩ := h; exact hb.lt
theorem RowR.below {w w' : World} {g : Nat} {rs : List Rg} (h : RowR w g rs) (hb : Below w.heap.size w w') : RowR w' g rs := by
  obtain ⟨⟨cur, hc, hs⟩, hr⟩ := h
  exact ⟨⟨cur, hc.below hb, hs⟩, fun i hi => (hr i hi).below hb⟩
theorem RowR.frozen {w : World} {g : Nat} {rs : List Rg} (h : RowR w g rs) (i : Nat) : w.frozen? ⟨g, i, none⟩ = false := by obtain ⟨⟨cur, hb, _⟩, _⟩ := h; exact hb.frozen i
theorem RowR.set {w : World} {g : Nat} {rs : List Rg} (h : RowR w g rs) (i : Nat) (hi : i < rs.length) (r : Rg) : RowR (set6 w g (i * 6) r) g (rs.set i r) := by
  obtain ⟨⟨cur, hc, hs⟩, hr⟩ := h
  obtain ⟨cur', hc', hs'⟩ := set6_blk hc (i * 6) r
  refine ⟨⟨cur', hc', by rw [hs', hs, List.length_set]⟩, fun j hj => ?_⟩
  rw [List.length_set] at hj
  by_cases e : i = j
  · subst e
    have : (rs.set i r).getD i z6 = r := by simp [List.getD_eq_getElem?_getD, hi]
    rw [this]
    exact set6_at (hr i hi) r
  · have : (rs.set i r).getD j z6 = rs.getD j z6 := by simp [List.getD_eq_getElem?_getD, e]
    rw [this]
    exact set6_far (hr j hj) r (by omega)
theorem RowR.rs {w : World} {g : Nat} {rs : List Rg} (h : RowR w g rs) (hm : rs.length ≤ maxLen) (hw : ∀ g ∈ rs, wfi g.1 ∧ wfi g.2.1 ∧ wfi g.2.2.1) (n cap : Nat) (hn : rs.length = n) (hc : n ≤ cap := by exact Nat.le_refl _) : RS w (some ⟨g, 0, none⟩) n cap rs := by
  subst hn
  exact ⟨rfl, hm, hw, fun _ => ⟨g, 0, rfl, fun i hi => by rw [Nat.zero_add]; exact h.2 i hi⟩, hc⟩

theorem rowR_of_made {w : World} {base g n : Nat} (h : w.ownsRow base 158 6 (.slice (some ⟨g, 0, none⟩) n n) n (madeCells (Value.cells (.agg #[.int .i64 0, .int .i64 0, .int .i64 0, .bool false, .bool false, .bool false])) (n * 6)).toList) : RowR w g (List.replicate n z6) := by
  obtain ⟨hl, h | ⟨g', cap, cur, hv, hb, hh, h1, h2, h3, h4⟩⟩ := h
  · simp at h
  · simp at hv
    obtain ⟨rfl, rfl⟩ := hv
    have e : cur.toList = (madeCells (Value.cells (.agg #[.int .i64 0, .int .i64 0, .int .i64 0, .bool false, .bool false, .bool false])) (n * 6)).toList := by
      rw [← h4, List.take_of_length_le (by simp [h3])]
    have e2 : cur = madeCells (Value.cells (.agg #[.int .i64 0, .int .i64 0, .int .i64 0, .bool false, .bool false, .bool false])) (n * 6) := Array.toList_inj.1 e
    have hB : Blk w g cur 158 := hh
    refine ⟨⟨cur, hB, by simp [h3]⟩, fun i hi => ?_⟩
    simp at hi
    have hcell : ∀ j, j < 6 → w.cell? ⟨g, i * 6 + j, none⟩ = #[Value.int .i64 0, .int .i64 0, .int .i64 0, .bool false, .bool false, .bool false][j]? := by
      intro j hj
      rw [hB.cell, e2]
      have hm : (i * 6 + j) % 6 = j := by omega
      simp [madeCells, Value.cells, show i * 6 + j < n * 6 by omega, hm]
      match j, hj with
      | 0, _ => rfl
      | 1, _ => rfl
      | 2, _ => rfl
      | 3, _ => rfl
      | 4, _ => rfl
      | 5, _ => rfl
    have hz : (List.replicate n z6).getD i z6 = z6 := by simp [List.getD_eq_getElem?_getD, hi]
    rw [hz]
    exact ⟨hcell 0 (by omega), hcell 1 (by omega), hcell 2 (by omega), hcell 3 (by omega), hcell 4 (by omega), hcell 5 (by omega)⟩

def midR (rs : List Rg) (k : Nat) : List Rg := (List.range rs.length).map (fun i => if i < k then rs.getD i z6 else z6)
theorem midR_len (rs : List Rg) (k : Nat) : (midR rs k).length = rs.length := by simp [midR]
theorem midR_zero (rs : List Rg) : midR rs 0 = List.replicate rs.length z6 := by
  apply List.ext_getElem
  · simp [midR]
  · intro i h1 h2; simp [midR]
theorem midR_all (rs : List Rg) : midR rs rs.length = rs := by
  apply List.ext_getElem
  · simp [midR]
  · intro i h1 h2; simp [midR, h2]
theorem midR_set (rs : List Rg) (k : Nat) (h : k < rs.length) : (midR rs k).set k (rs.getD k z6) = midR rs (k + 1) := by
  apply List.ext_getElem
  · simp [midR]
  · intro i h1 h2
    simp only [midR, List.getElem_set, List.getElem_map, List.getElem_range]
    by_cases hik : k = i
    · subst hik; simp
    · by_cases h3 : i < k
      · simp [hik, h3, show i < k + 1 by omega]
      · simp [hik, h3, show ¬ i < k + 1 by omega]
end Go.Proofs.YtngdgogjlpjjpaeGreat

namespace Go.Proofs.YtngdgogjlpjjpaeGreat
open Go.RowKit
set_option linter.unusedVariables false

/-- a row of regions at the head of block g -/
def RowW (w : World) (g : Nat) (rs : List Rg) : Prop :=
  (∃ cur, Blk w g cur 158) ∧ ∀ i, i < rs.length → At6 w g (i * 6) (rs.getD i z6)
theorem RowW.frozen {w : World} {g : Nat} {rs : List Rg} (h : RowW w g rs) (i : Nat) : w.frozen? ⟨g, i, none⟩ = false := by obtain ⟨⟨cur, hb⟩, _⟩ := h; exact hb.frozen i
theorem RowW.set {w : World} {g : Nat} {rs : List Rg} (h : RowW w g rs) (i : Nat) (hi : i < rs.length) (r : Rg) : RowW (set6 w g (i * 6) r) g (rs.set i r) := by
  obtain ⟨⟨cur, hc⟩, hr⟩ := h
  obtain ⟨cur', hc', hs'⟩ := set6_blk hc (i * 6) r
  refine ⟨⟨cur', hc'⟩, fun j hj => ?_⟩
  rw [List.length_set] at hj
  by_cases e : i = j
  · subst e
    have : (rs.set i r).getD i z6 = r := by simp [List.getD_eq_getElem?_getD, hi]
    rw [this]
    exact set6_at (hr i hi) r
  · have : (rs.set i r).getD j z6 = rs.getD j z6 := by simp [List.getD_eq_getElem?_getD, e]
    rw [this]
    exact set6_far (hr j hj) r (by omega)
theorem set6_turn (w : World) (g o : Nat) (r : Rg) : Turn (fun j => j = g) w (set6 w g o r) := by
  have step : ∀ (w : World) (o : Nat) (v : Value), Turn (fun j => j = g) w (w.setCell ⟨g, o, none⟩ v) := fun w o v =>
    ⟨rfl, rfl, rfl, by rw [size_setCell]; exact Nat.le_refl _, fun j hj hs => heap_setCell_other _ _ _ _ hs⟩
  unfold set6
  exact (((((step _ _ _).trans (step _ _ _)).trans (step _ _ _)).trans (step _ _ _)).trans (step _ _ _)).trans (step _ _ _)
theorem or_roww {w : World} {base n cap g : Nat} {rs : List Rg} (h : ORg w base (.slice (some ⟨g, 0, none⟩) n cap) rs) (hn : n ≠ 0) : RowW w g rs := by
  have hr := or_rs h
  have hl := hr.1
  obtain ⟨_, ⟨h0, h0'⟩ | ⟨g', cap', cur, hv, hg, hh, h1, h2, h3, h4⟩⟩ := h.1
  · simp at h0
  · simp at hv
    obtain ⟨rfl, _⟩ := hv
    exact ⟨⟨cur, hh⟩, fun i hi => by have := hr.at i (by omega); rw [Nat.zero_add] at this; exact this⟩

theorem turn_or' {S : Nat → Prop} {base : Nat} {w w' : World} {v : Value} {rs : List Rg} (t : Turn S w w') (h : ORg w base v rs) (hk : ∀ k, v.ownBlock = some k → ¬ S k) : ORg w' base v rs := by
  refine ⟨?_, h.2⟩
  obtain ⟨hl, h0 | ⟨g', cap, cur, rfl, hg, hh, h1, h2, h3, h4⟩⟩ := h.1
  · exact ⟨hl, .inl h0⟩
  · exact ⟨hl, .inr ⟨g', cap, cur, rfl, hg, turn_blk t hh (hk g' rfl), h1, h2, h3, h4⟩⟩
theorem or_lt {base : Nat} {w : World} {v : Value} {rs : List Rg} (h : ORg w base v rs) (k : Nat) (hk : v.ownBlock = some k) : k < w.heap.size := by
  obtain ⟨hl, ⟨rfl, h0⟩ | ⟨g', cap, cur, rfl, hg, hh, h1, h2, h3, h4⟩⟩ := h.1
  · cases hk
  · have e : some g' = some k := hk
    injection e with e
    subst e
    exact Blk.lt (w := w) hh

end Go.Proofs.YtngdgogjlpjjpaeGreat

namespace Go.Proofs.YtngdgogjlpjjpaeGreat
open Go.RowKit
set_option linter.unusedVariables false
set_option linter.unusedSimpArgs false
set_option maxRecDepth 100000

def put3 (w : World) (g o : Nat) (r x y : Bool) : World := ((w.setCell ⟨g, o + 3, none⟩ (.bool r)).setCell ⟨g, o + 4, none⟩ (.bool x)).setCell ⟨g, o + 5, none⟩ (.bool y)
theorem put3_other (w : World) (g o b o' : Nat) (r x y : Bool) (h : b ≠ g ∨ o' < o + 3 ∨ o + 6 ≤ o') : (put3 w g o r x y).cell? ⟨b, o', none⟩ = w.cell? ⟨b, o', none⟩ := by
  unfold put3
  rw [cell_other (by omega), cell_other (by omega), cell_other (by omega)]
theorem put3_at {w : World} {g o : Nat} {q : Rg} (h : At6 w g o q) (r x y : Bool) : At6 (put3 w g o r x y) g o (rgt r x y q) := by
  obtain ⟨h1, h2, h3, h4, h5, h6⟩ := h
  refine ⟨?_, ?_, ?_, ?_, ?_, ?_⟩
  · rw [put3_other _ _ _ _ _ _ _ _ (by omega)]; exact h1
  · rw [put3_other _ _ _ _ _ _ _ _ (by omega)]; exact h2
  · rw [put3_other _ _ _ _ _ _ _ _ (by omega)]; exact h3
  · unfold put3; rw [cell_other (by omega), cell_other (by omega)]; exact cell_same h4
  · unfold put3; rw [cell_other (by omega)]; exact cell_same (by rw [cell_other (by omega)]; exact h5)
  · unfold put3; exact cell_same (by rw [cell_other (by omega), cell_other (by omega)]; exact h6)
theorem put3_far {w : World} {g o b o' : Nat} {q : Rg} (h : At6 w b o' q) (r x y : Bool) (hf : b ≠ g ∨ o' + 6 ≤ o ∨ o + 6 ≤ o') : At6 (put3 w g o r x y) b o' q := by
  unfold At6
  rw [put3_other _ _ _ _ _ _ _ _ (by omega), put3_other _ _ _ _ _ _ _ _ (by omega), put3_other _ _ _ _ _ _ _ _ (by omega), put3_other _ _ _ _ _ _ _ _ (by omega), put3_other _ _ _ _ _ _ _ _ (by omega), put3_other _ _ _ _ _ _ _ _ (by omega)]
  exact h
def mixT (r x y : Bool) (C : List Rg) (k : Nat) : List Rg := (rts r x y C).take k ++ C.drop k
theorem mixT_len (r x y : Bool) (C : List Rg) (k : Nat) (h : k ≤ C.length) : (mixT r x y C k).length = C.length := by
  simp [mixT, rts_len]; omega
theorem mixT_at (r x y : Bool) (C : List Rg) (k i : Nat) (h : k ≤ C.length) (hi : i < C.length) : (mixT r x y C k).getD i z6 = if i < k then rgt r x y (C.getD i z6) else C.getD i z6 := by
  unfold mixT
  by_cases c : i < k
  · rw [if_pos c, List.getD_eq_getElem?_getD, List.getElem?_append_left (by simp [rts_len]; omega)]
    simp [rts, c, hi, List.getD_eq_getElem?_getD]
  · rw [if_neg c, List.getD_eq_getElem?_getD, List.getElem?_append_right (by simp [rts_len]; omega)]
    simp only [List.length_take, rts_len, List.getElem?_drop]
    rw [show k + (i - min k C.length) = i by omega, List.getD_eq_getElem?_getD]
/-- a row whose first k regions have their rights -/
theorem rowT_set {w : World} {g : Nat} {r x y : Bool} {C : List Rg} {k : Nat} (hk : k < C.length) (h : RowW w g (mixT r x y C k)) : RowW (put3 w g (k * 6) r x y) g (mixT r x y C (k + 1)) := by
  obtain ⟨⟨cur, hc⟩, hr⟩ := h
  refine ⟨⟨_, ((hc.set _ _).set _ _).set _ _⟩, fun i hi => ?_⟩
  rw [mixT_len _ _ _ _ _ (by omega)] at hi
  have hq := hr i (by rw [mixT_len _ _ _ _ _ (by omega)]; exact hi)
  rw [mixT_at _ _ _ _ _ _ (by omega) hi] at hq
  rw [mixT_at _ _ _ _ _ _ (by omega) hi]
  by_cases c : i = k
  · subst c
    rw [if_neg (by omega)] at hq
    rw [if_pos (by omega)]
    exact put3_at hq r x y
  · by_cases c2 : i < k
    · rw [if_pos c2] at hq
      rw [if_pos (by omega)]
      exact put3_far hq r x y (by omega)
    · rw [if_neg c2] at hq
      rw [if_neg (by omega)]
      exact put3_far hq r x y (by omega)
set_option maxHeartbeats 2000000 in
theorem regions_any (f s : Int) (r x y : Bool) (w : World) (hf : wfi f) (hs : wfi s) :
    Calls Tryz.prog 243 #[.agg #[.int .i64 f, .int .i64 s, .bool r, .bool x, .bool y]] w fun e w' => ∃ A n cap, e = .returned (.slice A n cap) ∧ RS w' A n cap (rts r x y (cvL f s)) ∧ (A = none → n = 0 ∧ cap = 0) ∧ Below w.heap.size w w' := by
  obtain ⟨W, hW⟩ : ∃ W, W = w.alloc (.cells #[.int .i64 f, .int .i64 s, .bool r, .bool x, .bool y] 232) := ⟨_, rfl⟩
  have HBW := hide (show Below w.heap.size w W by rw [hW]; exact (Below.refl _ _).alloc (Nat.le_refl _) _)
  have k0 : Blk W w.heap.size #[.int .i64 f, .int .i64 s, .bool r, .bool x, .bool y] 232 := by rw [hW]; exact Blk.new w _ _
  have sW : W.heap.size = w.heap.size + 1 := by rw [hW]; simp
  have d0 : W.cell? ⟨w.heap.size, 0, none⟩ = some (.int .i64 f) := k0.cell 0
  have d1 : W.cell? ⟨w.heap.size, 1, none⟩ = some (.int .i64 s) := k0.cell 1
  have HK := hide k0
  have HC := hide (iCover_any f s W (by unfold wfi at hf; omega))
  have HL := hide (cvL_len f s)
  generalize cvL f s = C at *
  have HW := hide hW
  clear hW k0
  go_enter Tryz.func243, Tryz.ntmps243
  go_wp2_with (rw [← HW.out])
  refine HC.out.mono ?_
  rintro e w2 ⟨c, n, cc, rfl, hC, hB2⟩
  have HN := hide (or_rs hC).1
  have hn : n ≤ 8192 := by have := HN.out; have := HL.out; omega
  have HX := hide (And.intro hC hB2)
  by_cases h0 : n = 0
  · subst h0
    clear hC hB2
    go_wp2_with fail
    go_loopw [16] (fun i wr => i = .int .i64 0 ∧ wr = w2) (fun _ _ => 0)
    case atStart => exact ⟨rfl, rfl⟩
    case round =>
      obtain ⟨rfl, rfl⟩ := hrel
      go_wp2
      go_ret
      have e0 : C = [] := List.eq_nil_of_length_eq_zero HN.out
      refine ⟨_, _, _, rfl, ?_, fun hc => ?_, HBW.out.trans (HX.out.2.mono HBW.out.size)⟩
      rotate_left
      · obtain ⟨hl, ⟨h1, _⟩ | ⟨g', cap', cur, hv, _⟩⟩ := HX.out.1.1
        · injection h1 with _ h1 h2; exact ⟨rfl, h2⟩
        · injection hv with h1; rw [hc] at h1; cases h1
      have := or_rs HX.out.1
      rw [e0] at this ⊢
      exact this
  · have hn0 : n ≠ 0 := h0
    obtain ⟨g, ha⟩ : ∃ g, c = some ⟨g, 0, none⟩ := by
      obtain ⟨hl, ⟨h1, _⟩ | ⟨g', cap', cur, hv, _⟩⟩ := hC.1
      · injection h1 with _ h1; exact absurd h1 hn0
      · injection hv with h1; exact ⟨g', h1⟩
    subst ha
    have HR := hide (or_roww hC hn0)
    have hg1 : W.heap.size ≤ g := by
      obtain ⟨hl, ⟨h1, _⟩ | ⟨g', cap', cur, hv, hg, _⟩⟩ := hC.1
      · injection h1 with _ h1; exact absurd h1 hn0
      · injection hv with h1; injection h1 with h1; injection h1 with h1; omega
    clear hC hB2
    go_wp2_with fail
    go_loopw [16] (fun i wr => ∃ k : Nat, k ≤ n ∧ i = .int .i64 k ∧ RowW wr g (mixT r x y C k) ∧ Below W.heap.size W wr) (fun i _ => n - (intOf i).toNat)
    case atStart => exact ⟨0, Nat.zero_le _, rfl, by simpa [mixT] using HR.out, HX.out.2⟩
    case round =>
      obtain ⟨k, hk, rfl, hR, hB⟩ := hrel
      by_cases hlt : k < n
      · have hlt' : (k : Int) < (n : Int) := by omega
        obtain ⟨p0, p1, p2, p3, p4, p5⟩ := hR.2 k (by rw [mixT_len _ _ _ _ _ (by rw [HN.out]; omega), HN.out]; exact hlt)
        have hfz := hR.frozen
        have kk := HK.out.below hB
        have e2 : wr.cell? ⟨w.heap.size, 2, none⟩ = some (.bool r) := kk.cell 2
        have e3 : wr.cell? ⟨w.heap.size, 3, none⟩ = some (.bool x) := kk.cell 3
        have e4 : wr.cell? ⟨w.heap.size, 4, none⟩ = some (.bool y) := kk.cell 4
        have HS := hide (rowT_set (by rw [HN.out]; exact hlt) hR)
        have HB3 := hide (show Below W.heap.size W ((put3 wr g (k * 6) r x y).drew) from (((hB.setCell (p := ⟨g, k * 6 + 3, none⟩) hg1 _).setCell (p := ⟨g, k * 6 + 4, none⟩) hg1 _).setCell (p := ⟨g, k * 6 + 5, none⟩) hg1 _).drew)
        clear hR hB kk
        generalize (mixT r x y C k).getD k z6 = G at *
        obtain ⟨g1, g2, g3, g4, g5, g6⟩ := G
        have hne : ¬ g = w.heap.size := by omega
        have hne' : ¬ w.heap.size = g := by omega
        have f3 := hfz (k * 6 + 3)
        have f4 := hfz (k * 6 + 4)
        have f5 := hfz (k * 6 + 5)
        clear hfz
        go_wp2
        go_region_with (fail)
        all_goals
          go_wp2
          go_roundw
          case rel => exact ⟨k + 1, by omega, by go_num, HS.out, HB3.out⟩
          case measure => simp [intOf]; omega
      · have HE := hide (show k = n by omega)
        have HF := hide (And.intro hR hB)
        clear hR hB
        go_wp2
        go_ret
        refine ⟨_, _, _, rfl, ?_, (fun hc => by cases hc), HBW.out.trans (HF.out.2.mono HBW.out.size)⟩
        have hRR := HF.out.1
        have e0 : mixT r x y C k = rts r x y C := by
          have hl := rts_len r x y C
          have := HN.out
          unfold mixT
          rw [List.drop_eq_nil_of_le (by rw [HE.out, this]; exact Nat.le_refl _), List.append_nil, List.take_of_length_le (by rw [hl, this, HE.out]; exact Nat.le_refl _)]
        rw [e0] at hRR
        refine ⟨by rw [rts_len]; exact HN.out, by unfold maxLen; omega, ?_, fun _ => ⟨g, 0, rfl, fun i hi => by have := hRR.2 i (by rw [rts_len, HN.out]; exact hi); rw [Nat.zero_add]; exact this⟩, (or_rs HX.out.1).2.2.2.2⟩
        intro q hq
        simp only [rts, List.mem_map] at hq
        obtain ⟨p, hp, rfl⟩ := hq
        exact HX.out.1.2 p hp
end Go.Proofs.YtngdgogjlpjjpaeGreat

namespace Go.Proofs.YtngdgogjlpjjpaeGreat
open Go.RowKit
set_option linter.unusedVariables false
set_option linter.unusedSimpArgs false
set_option maxRecDepth 100000

theorem or_rowle {base n cap : Nat} {a : Option Addr} {w : World} {rs : List Rg} (h : ORg w base (.slice a n cap) rs) (k : Nat) (hk : (Value.slice a n cap).ownBlock = some k) : base ≤ k := by
  obtain ⟨hl, ⟨h0, _⟩ | ⟨g', cap', cur, hv, hg, hh, h1, h2, h3, h4⟩⟩ := h.1
  · rw [h0] at hk; cases hk
  · rw [hv] at hk
    have e : some g' = some k := hk
    injection e with e
    omega
set_option maxHeartbeats 2000000 in
theorem l6With_any (A : Option Addr) (m cap : Nat) (rs : List Rg) (f s : Int) (r x y : Bool) (base : Nat) (w : World) (hb : base ≤ w.heap.size) (h : ORg w base (.slice A m cap) rs) (hf : wfi f) (hs : wfi s) (hm : m ≤ 1000000) :
    Calls Tryz.prog 134 #[.slice A m cap, .int .i64 f, .int .i64 s, .bool r, .bool x, .bool y] w fun e w' => ∃ A' m' cap', e = .returned (.slice A' m' cap') ∧ m' = m + (cvL f s).length ∧ ORg w' base (.slice A' m' cap') (rs ++ rts r x y (cvL f s)) ∧ Below base w w' := by
  obtain ⟨i0, hi, hz0, hz1, hz2⟩ := info_parts infoR
  have HC := hide (sCover_any f s w (by unfold wfi at hf; omega) (by unfold wfi at hs; omega))
  have HL := hide (cvL_len f s)
  have HO0 := hide h
  have HLEN0 := hide (or_rs h).1
  generalize cvL f s = C at *
  clear h
  go_enter Tryz.func134, Tryz.ntmps134
  go_wp2_with fail
  refine HC.out.mono ?_
  rintro e w2 ⟨c, n, cc, rfl, hC, hB2⟩
  have HN := hide (or_rs hC).1
  have hn : n ≤ 8192 := by have := HN.out; have := HL.out; omega
  have HX := hide (And.intro hC hB2)
  have HO2 := hide (turn_or' (turn_below hB2) HO0.out (fun k hk h => by exact h))
  clear hC hB2
  go_wp2_with fail
  go_loopw [0, 15] (fun o i wr => ∃ (A' : Option Addr) (m' cap' k : Nat), k ≤ n ∧ m' = m + k ∧ o = .slice A' m' cap' ∧ i = .int .i64 k ∧ ORg wr base (.slice A' m' cap') (rs ++ (rts r x y C).take k) ∧ ORg wr w.heap.size (.slice c n cc) C ∧ (∀ j, (Value.slice A' m' cap').ownBlock = some j → ¬ (Value.slice c n cc).ownBlock = some j) ∧ Below base w wr) (fun _ i _ => n - (intOf i).toNat)
  case atStart => exact ⟨A, m, cap, 0, Nat.zero_le _, rfl, rfl, rfl, by simpa using HO2.out, HX.out.1, fun j h1 h2 => by have := or_lt HO0.out j h1; have := or_rowle HX.out.1 j h2; omega, HX.out.2.mono hb⟩
  case round =>
    obtain ⟨A', m', cap', k, hk, hm', rfl, rfl, hO, hC, hd, hB⟩ := hrel
    by_cases hlt : k < n
    · have hlt' : (k : Int) < (n : Int) := by omega
      obtain ⟨b, off, rfl⟩ := (or_rs hC).some (by omega)
      have hat := (or_rs hC).at k hlt
      have hC2 := hC.2 (C.getD k z6) (by
        have : k < C.length := by rw [HN.out]; exact hlt
        simp [List.getD_eq_getElem?_getD, this])
      have HT := hide (rts_step r x y C k (by rw [HN.out]; exact hlt))
      generalize hG : C.getD k z6 = G at *
      obtain ⟨g1, g2, g3, g4, g5, g6⟩ := G
      have HG := hide hG
      obtain ⟨p0, p1, p2, p3, p4, p5⟩ := hat
      obtain ⟨W1, hW1⟩ : ∃ W1, W1 = wr.alloc (.cells #[.int .i64 g1, .int .i64 g2, .int .i64 g3, .bool g4, .bool g5, .bool g6] 158) := ⟨_, rfl⟩
      have K1 : Blk W1 wr.heap.size #[.int .i64 g1, .int .i64 g2, .int .i64 g3, .bool g4, .bool g5, .bool g6] 158 := by rw [hW1]; exact Blk.new _ _ _
      have B1 : Below wr.heap.size wr W1 := by rw [hW1]; exact (Below.refl _ _).alloc (Nat.le_refl _) _
      have s1 : W1.heap.size = wr.heap.size + 1 := by rw [hW1]; simp
      obtain ⟨W2, hW2⟩ : ∃ W2, W2 = ((W1.setCell ⟨wr.heap.size, 3, none⟩ (.bool r)).setCell ⟨wr.heap.size, 4, none⟩ (.bool x)).setCell ⟨wr.heap.size, 5, none⟩ (.bool y) := ⟨_, rfl⟩
      have K2 : Blk W2 wr.heap.size #[.int .i64 g1, .int .i64 g2, .int .i64 g3, .bool r, .bool x, .bool y] 158 := by
        rw [hW2]; exact ((K1.set 3 (.bool r)).set 4 (.bool x)).set 5 (.bool y)
      have B2 : Below wr.heap.size wr W2 := by rw [hW2]; exact ((B1.setCell (Nat.le_refl _) _).setCell (Nat.le_refl _) _).setCell (Nat.le_refl _) _
      have s2 : W2.heap.size = wr.heap.size + 1 := by rw [hW2]; simp [s1]
      have BB : Below wr.heap.size wr (W2.alloc (.cells #[.int .i64 g1, .int .i64 g2, .int .i64 g3, .bool r, .bool x, .bool y] 158)) := B2.alloc (by rw [s2]; omega) _
      have HOW := hide (show (W2.alloc (.cells #[.int .i64 g1, .int .i64 g2, .int .i64 g3, .bool r, .bool x, .bool y] 158)).ownsRow base 158 6 (.slice A' m' cap') m' (flat (rs ++ (rts r x y C).take k)) from by
        have := (turn_or' (turn_below BB) hO (fun _ _ h => h)).1
        rwa [(or_rs hO).1] at this)
      have HNEWS := hide (by have := news6 W2 (g1, g2, g3, r, x, y); rw [s2] at this; exact this)
      have HMM := hide hm'
      have HONE := hide (one6 (g1, g2, g3, r, x, y))
      have HRS := hide hO.2
      have HLB := hide (or_lt hO)
      have HGE := hide (or_rowle hO)
      have HCW := hide (turn_or' (turn_below BB) hC (fun _ _ h => h))
      have HCL := hide (or_lt hC)
      have HD := hide hd
      have HML := hide (or_rs hO).1
      have HSZ := hide (show base ≤ (W2.alloc (.cells #[.int .i64 g1, .int .i64 g2, .int .i64 g3, .bool r, .bool x, .bool y] 158)).heap.size from by have := hB.size; simp; omega)
      have HSY := hide (show (W2.alloc (.cells #[.int .i64 g1, .int .i64 g2, .int .i64 g3, .bool r, .bool x, .bool y] 158)).heap.size = wr.heap.size + 2 from by simp [s2])
      have HB3 := hide (show Below base w (W2.alloc (.cells #[.int .i64 g1, .int .i64 g2, .int .i64 g3, .bool r, .bool x, .bool y] 158)) from hB.trans (BB.mono (by have := hB.size; omega)))
      have HG2 := hide hC2
      obtain ⟨q1, q2, q3, q4, q5, q6, q7⟩ := K1.six'
      obtain ⟨u1, u2, u3, u4, u5, u6, u7⟩ := K2.six'
      have HW1 := hide hW1
      have HW2 := hide hW2
      clear hW1 hW2 K1 K2 B1 B2 BB hO hC hd hB hC2 hG hm'
      generalize hW3 : W2.alloc (.cells #[.int .i64 g1, .int .i64 g2, .int .i64 g3, .bool r, .bool x, .bool y] 158) = W3 at *
      have HW3 := hide hW3
      clear hW3
      go_wp2_with (first | rw [← HW1.out] | rw [← HW2.out] | rw [HW3.out] | (at_builtin; refine wpList_append_own_at _ rfl _ _ 68 rfl base 158 i0 (.agg #[.int .i64 0, .int .i64 0, .int .i64 0, .bool false, .bool false, .bool false]) 6 32 Tryz.underlying68 hi hz0 hz1 hz2 rfl (by decide) (.slice A' m' cap') m' (flat (rs ++ (rts r x y C).take k)) rfl HOW.out ⟨wr.heap.size + 1, 0, none⟩ 1 1 (cells6 (g1, g2, g3, r, x, y)) rfl rfl HNEWS.out HONE.out (by have := HMM.out; unfold maxLen; omega) (by have := HMM.out; omega) HSZ.out ?_; intro v' w3 hown3 hgr3 _ hat3; have HP := hide (And.intro hown3 (And.intro hgr3 hat3)); clear hown3 hgr3 hat3; obtain ⟨A2, cap2, he⟩ := or_shape HP.out.1; subst he))
      have t3 := grown_turn HP.out.2.1
      refine ⟨⟨A2, m' + 1, cap2, k + 1, by omega, by have := HMM.out; omega, rfl, by go_num, ?_, ?_, ?_, ?_⟩, by simp [intOf]; omega⟩
      · rw [HT.out, ← List.append_assoc]
        refine or_more (W := W3) (v := .slice A' m' cap') HRS.out HG2.out ?_
        rw [HML.out]
        exact HP.out.1
      · exact turn_or' t3 HCW.out (fun j hj h => HD.out j h hj)
      · intro j h1 h2
        rcases HP.out.2.2 with h | h
        · exact HD.out j (h ▸ h1) h2
        · rw [h1] at h
          injection h with h
          have := HCL.out j h2
          have := HSY.out
          omega
      · exact below_turn HB3.out t3 (fun j hj => HGE.out j hj) HSZ.out
    · have HE := hide (show k = n by omega)
      have HF := hide (And.intro hO hB)
      clear hO hC hd hB
      go_wp2
      go_ret
      refine ⟨A', m', cap', rfl, by rw [hm', HE.out, HN.out], ?_, HF.out.2⟩
      have := HF.out.1
      rwa [List.take_of_length_le (by rw [rts_len, HE.out, HN.out]; exact Nat.le_refl _)] at this
end Go.Proofs.YtngdgogjlpjjpaeGreat
