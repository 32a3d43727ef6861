import Derived.Test.YtngdgogjlpjjpaeGreatGa07
namespace Go.Proofs.YtngdgogjlpjjpaeGreat
open Go.RowKit
set_option linter.unusedVariables false
set_option linter.unusedSimpArgs false
set_option maxRecDepth 100000

theorem cellO {w : World} {g o o' b : Nat} {v : Value} (h : b ≠ g ∨ o' ≠ o) : (w.setCell ⟨g, o, none⟩ v).cell? ⟨b, o', none⟩ = w.cell? ⟨b, o', none⟩ :=
  World.cell?_setCell_other _ _ _ _ (by intro e; injection e; rcases h with h | h <;> simp_all)
theorem cellS {w : World} {g o : Nat} {u v : Value} (h : w.cell? ⟨g, o, none⟩ = some u) : (w.setCell ⟨g, o, none⟩ v).cell? ⟨g, o, none⟩ = some v := World.cell?_setCell_same _ _ _ h
def At3 (w : World) (g o : Nat) (x : Ex) : Prop := w.cell? ⟨g, o, none⟩ = some (.string x.1) ∧ w.cell? ⟨g, o + 1, none⟩ = some (.int .i64 x.2.1) ∧ w.cell? ⟨g, o + 2, none⟩ = some (.int .i64 x.2.2)
def set3 (w : World) (g o : Nat) (x : Ex) : World := ((w.setCell ⟨g, o, none⟩ (.string x.1)).setCell ⟨g, o + 1, none⟩ (.int .i64 x.2.1)).setCell ⟨g, o + 2, none⟩ (.int .i64 x.2.2)
theorem set3_other (w : World) (g o b o' : Nat) (r : Ex) (h : b ≠ g ∨ o' < o ∨ o + 3 ≤ o') : (set3 w g o r).cell? ⟨b, o', none⟩ = w.cell? ⟨b, o', none⟩ := by
  unfold set3
  rw [cellO (by omega), cellO (by omega), cellO (by omega)]
theorem set3_at {w : World} {g o : Nat} {q : Ex} (h : At3 w g o q) (r : Ex) : At3 (set3 w g o r) g o r := by
  obtain ⟨h1, h2, h3⟩ := h
  unfold set3
  refine ⟨?_, ?_, ?_⟩
  · rw [cellO (by omega), cellO (by omega)]; exact cellS h1
  · rw [cellO (by omega)]; exact cellS (by rw [cellO (by omega)]; exact h2)
  · exact cellS (by rw [cellO (by omega), cellO (by omega)]; exact h3)
theorem set3_far {w : World} {g o b o' : Nat} {q : Ex} (h : At3 w b o' q) (r : Ex) (hf : b ≠ g ∨ o' + 3 ≤ o ∨ o + 3 ≤ o') : At3 (set3 w g o r) b o' q := by
  unfold At3
  rw [set3_other _ _ _ _ _ _ (by omega), set3_other _ _ _ _ _ _ (by omega), set3_other _ _ _ _ _ _ (by omega)]
  exact h
theorem set3_blk {w : World} {g : Nat} {cur : Array Value} {t : TypeId} (h : Blk w g cur t) (o : Nat) (r : Ex) : ∃ cur', Blk (set3 w g o r) g cur' t ∧ cur'.size = cur.size :=
  ⟨_, (((h.set o _).set (o + 1) _).set (o + 2) _), by simp⟩
theorem set3_below {B : Nat} {a w : World} (h : Below B a w) {g : Nat} (hg : B ≤ g) (o : Nat) (r : Ex) : Below B a (set3 w g o r) :=
  ((h.setCell (p := ⟨g, o, none⟩) hg _).setCell (p := ⟨g, o + 1, none⟩) hg _).setCell (p := ⟨g, o + 2, none⟩) hg _
theorem At3.below {w w' : World} {g o : Nat} {x : Ex} (h : At3 w g o x) (hb : Below w.heap.size w w') : At3 w' g o x := by
  have key : ∀ o v, w.cell? ⟨g, o, none⟩ = some v → w'.cell? ⟨g, o, none⟩ = some v := fun o v hv => (hb.cell (World.block_lt_of_cell? w _ hv)).trans hv
  exact ⟨key _ _ h.1, key _ _ h.2.1, key _ _ h.2.2⟩
/-- A ROW OF EXPORTS OF THE CALL's OWN. -/
def RowX (w : World) (g : Nat) (es : List Ex) : Prop :=
  (∃ cur, Blk w g cur 207 ∧ cur.size = es.length * 3) ∧ ∀ i, i < es.length → At3 w g (i * 3) (es.getD i zE)
theorem RowX.lt {w : World} {g : Nat} {es : List Ex} (h : RowX w g es) : g < w.heap.size := by obtain ⟨⟨cur, hb, _⟩, _⟩ := h; exact hb.lt
theorem RowX.below {w w' : World} {g : Nat} {es : List Ex} (h : RowX w g es) (hb : Below w.heap.size w w') : RowX w' g es := by
  obtain ⟨⟨cur, hc, hs⟩, hr⟩ := h
  exact ⟨⟨cur, hc.below hb, hs⟩, fun i hi => (hr i hi).below hb⟩
theorem RowX.frozen {w : World} {g : Nat} {es : List Ex} (h : RowX w g es) (i : Nat) : w.frozen? ⟨g, i, none⟩ = false := by obtain ⟨⟨cur, hb, _⟩, _⟩ := h; exact hb.frozen i
theorem RowX.set {w : World} {g : Nat} {es : List Ex} (h : RowX w g es) (i : Nat) (hi : i < es.length) (r : Ex) : RowX (set3 w g (i * 3) r) g (es.set i r) := by
  obtain ⟨⟨cur, hc, hs⟩, hr⟩ := h
  obtain ⟨cur', hc', hs'⟩ := set3_blk hc (i * 3) r
  refine ⟨⟨cur', hc', by rw [hs', hs, List.length_set]⟩, fun j hj => ?_⟩
  rw [List.length_set] at hj
  by_cases e : i = j
  · subst e
    have : (es.set i r).getD i zE = r := by simp [List.getD_eq_getElem?_getD, hi]
    rw [this]
    exact set3_at (hr i hi) r
  · have : (es.set i r).getD j zE = es.getD j zE := by simp [List.getD_eq_getElem?_getD, e]
    rw [this]
    exact set3_far (hr j hj) r (by omega)
theorem RowX.te {w w0 : World} {g n cap : Nat} {a : Option Addr} {es : List Ex} (h : RowX w g es) (k : TE w0 a n cap es) : TE w (some ⟨g, 0, none⟩) n n es := by
  obtain ⟨h1, h2, h3, h4, h5⟩ := k
  exact ⟨h1, h2, h3, fun _ => ⟨g, 0, rfl, fun i hi => by rw [Nat.zero_add]; exact h.2 i (by omega)⟩, Nat.le_refl _⟩
theorem infoX : (Tryz.prog.info? 207).map (fun i => (i.zero, i.size, i.bytes)) = some (some (.agg #[.string ⟨#[]⟩, .int .i64 0, .int .i64 0]), 3, 32) := by kernel_rfl
theorem rowX_of_made {w : World} {base g n : Nat} (h : w.ownsRow base 207 3 (.slice (some ⟨g, 0, none⟩) n n) n (madeCells (Value.cells (.agg #[.string ⟨#[]⟩, .int .i64 0, .int .i64 0])) (n * 3)).toList) : RowX w g (List.replicate n zE) := by
  obtain ⟨hl, h | ⟨g', cap, cur, hv, hb, hh, h1, h2, h3, h4⟩⟩ := h
  · simp at h
  · simp at hv
    obtain ⟨rfl, rfl⟩ := hv
    have e : cur.toList = (madeCells (Value.cells (.agg #[.string ⟨#[]⟩, .int .i64 0, .int .i64 0])) (n * 3)).toList := by
      rw [← h4, List.take_of_length_le (by simp [h3])]
    have e2 : cur = madeCells (Value.cells (.agg #[.string ⟨#[]⟩, .int .i64 0, .int .i64 0])) (n * 3) := Array.toList_inj.1 e
    have hB : Blk w g cur 207 := hh
    refine ⟨⟨cur, hB, by simp [h3]⟩, fun i hi => ?_⟩
    simp at hi
    have hcell : ∀ j, j < 3 → w.cell? ⟨g, i * 3 + j, none⟩ = #[Value.string ⟨#[]⟩, .int .i64 0, .int .i64 0][j]? := by
      intro j hj
      rw [hB.cell, e2]
      have hm : (i * 3 + j) % 3 = j := by omega
      simp [madeCells, Value.cells, show i * 3 + j < n * 3 by omega, hm]
      match j, hj with
      | 0, _ => rfl
      | 1, _ => rfl
      | 2, _ => rfl
    have hz : (List.replicate n zE).getD i zE = zE := by simp [List.getD_eq_getElem?_getD, hi]
    rw [hz]
    exact ⟨hcell 0 (by omega), hcell 1 (by omega), hcell 2 (by omega)⟩
def midX (es : List Ex) (k : Nat) : List Ex := (List.range es.length).map (fun i => if i < k then es.getD i zE else zE)
theorem midX_len (es : List Ex) (k : Nat) : (midX es k).length = es.length := by simp [midX]
theorem midX_zero (es : List Ex) : midX es 0 = List.replicate es.length zE := by
  apply List.ext_getElem
  · simp [midX]
  · intro i h1 h2; simp [midX]
theorem midX_all (es : List Ex) : midX es es.length = es := by
  apply List.ext_getElem
  · simp [midX]
  · intro i h1 h2; simp [midX, h2]
theorem midX_set (es : List Ex) (k : Nat) (h : k < es.length) : (midX es k).set k (es.getD k zE) = midX es (k + 1) := by
  apply List.ext_getElem
  · simp [midX]
  · intro i h1 h2
    simp only [midX, List.getElem_set, List.getElem_map, List.getElem_range]
    by_cases hik : k = i
    · subst hik; simp
    · by_cases h3 : i < k
      · simp [hik, h3, show i < k + 1 by omega]
      · simp [hik, h3, show ¬ i < k + 1 by omega]

set_option maxHeartbeats 1000000 in
theorem toExportS_any (x : Option Addr) (n cap : Nat) (es : List Ex) (w : World) (h : TE w x n cap es) (hn : n ≤ 1048576) :
    Calls Tryz.prog 139 #[.slice x n cap] w fun e w' => e = .returned (.slice (some ⟨w.heap.size, 0, none⟩) n n) ∧ RowX w' w.heap.size es ∧ Below w.heap.size w w' := by
  obtain ⟨i0, hi, hz0, hz1, hz2⟩ := info_parts infoX
  have hl := h.1
  go_enter Tryz.func139, Tryz.ntmps139
  go_wp2_with (at_make; refine wpList_make_full _ rfl _ _ 102 rfl w.heap.size 207 i0 (.agg #[.string ⟨#[]⟩, .int .i64 0, .int .i64 0]) 3 Tryz.underlying102 hi hz0 hz1 .i64 .i64 _ _ n rfl rfl rfl rfl (by rw [hz2]; omega) (by unfold maxLen; omega) (Nat.le_refl _) ?_; intro w1 hown hgr)
  have hrow := rowX_of_made hown
  have hbel := below_grown hgr
  clear hown hgr hi hz0 hz1 hz2
  go_loopw [4] (fun i wr => ∃ k : Nat, k ≤ n ∧ i = .int .i64 k ∧ RowX wr w.heap.size (midX es k) ∧ Below w.heap.size w wr) (fun i _ => n - (intOf i).toNat)
  case atStart => exact ⟨0, Nat.zero_le _, rfl, by rw [midX_zero, hl]; exact hrow, hbel⟩
  case round =>
    obtain ⟨k, hk, rfl, hR, hB⟩ := hrel
    clear hrow hbel
    by_cases hlt : k < n
    · have hlt' : (k : Int) < (n : Int) := by omega
      obtain ⟨b, off, rfl, hat⟩ := (h.below hB).at k hlt
      have hset : ∀ W, Below wr.heap.size wr W → RowX (set3 W w.heap.size (k * 3) (es.getD k zE)) w.heap.size (midX es (k + 1)) := by
        intro W hW
        have := (hR.below hW).set k (by rw [midX_len]; omega) (es.getD k zE)
        rw [midX_set es k (by omega)] at this
        exact this
      have HSET := hide hset
      clear hset
      have hg := hR.2 k (by rw [midX_len]; omega)
      generalize es.getD k zE = r at *
      generalize (midX es k).getD k zE = r0 at *
      obtain ⟨g1, g2, g3⟩ := r
      obtain ⟨q1, q2, q3⟩ := hat
      simp only at q1 q2 q3
      go_wp2_with fail
      refine (toExport_any g1 g2 g3 _).mono ?_
      rintro e w2 ⟨rfl, hb2⟩
      have hB2 := hB.trans (hb2.mono hB.size)
      have hg2 := hg.below hb2
      have hfz : ∀ i, w2.frozen? ⟨w.heap.size, i, none⟩ = false := (hR.below hb2).frozen
      have HS2 := hide (HSET.out _ hb2)
      have HB2 := hide (set3_below hB2 (Nat.le_refl _) (k * 3) (g1, g2, g3))
      clear HSET hR q1 q2 q3
      obtain ⟨p1, p2, p3⟩ := hg2
      go_wp2
      go_roundw
      case rel => exact ⟨k + 1, by omega, by go_num, HS2.out, HB2.out⟩
      case measure => simp [intOf]; omega
    · have e : Hid (k = n) := by show k = n; omega
      go_wp2
      go_ret
      exact ⟨rfl, by rw [e.out, ← hl, midX_all] at hR; exact hR, hB⟩

set_option maxHeartbeats 1000000 in
theorem eqExportS_same (x x' : Option Addr) (n cap cap' : Nat) (es : List Ex) (w : World) (h : TE w x n cap es) (h' : TE w x' n cap' es) :
    Calls Tryz.prog 146 #[.slice x n cap, .slice x' n cap'] w fun e w' => e = .returned (.bool true) ∧ Below w.heap.size w w' := by
  have hmx := h.2.1
  unfold maxLen at hmx
  have hne : ((n : Int) != (n : Int)) = false := by simp
  go_enter Tryz.func146, Tryz.ntmps146
  go_wp2
  go_loopw [5] (fun i wr => ∃ k : Nat, k ≤ n ∧ i = .int .i64 k ∧ Below w.heap.size w wr) (fun i _ => n - (intOf i).toNat)
  case atStart => exact ⟨0, Nat.zero_le _, rfl, Below.refl _ _⟩
  case round =>
    obtain ⟨k, hk, rfl, hB⟩ := hrel
    by_cases hlt : k < n
    · have hlt' : (k : Int) < (n : Int) := by omega
      obtain ⟨b, off, rfl, q1, q2, q3⟩ := (h.below hB).at k hlt
      obtain ⟨b', off', rfl, p1, p2, p3⟩ := (h'.below hB).at k hlt
      generalize es.getD k zE = r at *
      obtain ⟨g1, g2, g3⟩ := r
      simp only at q1 q2 q3 p1 p2 p3
      go_wp2
      go_region_held3 (fun w' => w'.cell? ⟨b, off + k * 3, none⟩ = some (.string g1) ∧ w'.cell? ⟨b, off + k * 3 + 1, none⟩ = some (.int .i64 g2) ∧ w'.cell? ⟨b, off + k * 3 + 2, none⟩ = some (.int .i64 g3) ∧
          w'.cell? ⟨b', off' + k * 3, none⟩ = some (.string g1) ∧ w'.cell? ⟨b', off' + k * 3 + 1, none⟩ = some (.int .i64 g2) ∧ w'.cell? ⟨b', off' + k * 3 + 2, none⟩ = some (.int .i64 g3)) (go_keep)
        (first
          | (go_at_call 209; refine (eqExport_same g1 g2 g3 _).mono ?_; rintro e w1 ⟨rfl, hb1⟩; replace hb1 := undrew hb1; obtain ⟨hc1, hf1⟩ := bcell hb1; have hlb := World.block_lt_of_cell? _ _ q1; have hlb' := World.block_lt_of_cell? _ _ p1))
      clear hc1 hf1 q1 q2 q3 p1 p2 p3
      go_wp2
      go_roundw
      case rel => exact ⟨k + 1, by omega, by go_num, hB.trans (hb1.mono hB.size)⟩
      case measure => simp [intOf]; omega
    · go_wp2
      go_ret
      exact ⟨rfl, hB⟩
end Go.Proofs.YtngdgogjlpjjpaeGreat

namespace Go.Proofs.YtngdgogjlpjjpaeGreat
open Go.RowKit
set_option linter.unusedVariables false
set_option linter.unusedSimpArgs false
set_option maxRecDepth 100000

theorem turn_at (c : Nat) (w : World) (r i : Nat) (v : Value) (h : r ≤ c) : Turn (fun j => j ≤ c) w (w.setCell ⟨r, i, none⟩ v) := ⟨rfl, rfl, rfl, by rw [size_setCell]; exact Nat.le_refl _, fun j hj hn => heap_setCell_other _ _ _ _ (fun e => hn (by dsimp only at e; omega))⟩
/-- WHAT STANDS WHATEVER IS DONE TO THE BLOCKS UP TO c. -/
def Stab (c : Nat) (R : World → Prop) : Prop := ∀ W W', Turn (fun j => j ≤ c) W W' → R W → R W'
theorem stab_i {c g : Nat} {zs : List Int} (h : c < g) : Stab c (fun W => RowI W g zs) := fun W W' t r => turn_blk t r (by show ¬ g ≤ c; omega)
theorem stab_8 {c g : Nat} {zs : List Int} (h : c < g) : Stab c (fun W => Row8 W g zs) := fun W W' t r => turn_blk t r (by show ¬ g ≤ c; omega)
theorem stab_t {c g : Nat} {zs : List ByteArray} (h : c < g) : Stab c (fun W => RowT W g zs) := fun W W' t r => turn_blk t r (by show ¬ g ≤ c; omega)
theorem stab_b {c g n : Nat} {bl : List Bk} (h : c < g) : Stab c (fun W => ∃ gs, gs.length = n ∧ RowB W g n gs bl) := fun W W' t r => by
  obtain ⟨gs, h1, ⟨cur, h2, h3⟩, h4, h5⟩ := r
  exact ⟨gs, h1, ⟨cur, turn_blk t h2 (by show ¬ g ≤ c; omega), h3⟩, fun i hi => ⟨turn_blk t (h4 i hi).1 (by show ¬ gs.getD i 0 ≤ c; have := (h4 i hi).2; omega), (h4 i hi).2⟩, h5⟩
theorem stab_x {c g : Nat} {es : List Ex} (h : c < g) : Stab c (fun W => RowX W g es) := fun W W' t r => by
  obtain ⟨⟨cur, h2, h3⟩, h4⟩ := r
  have e : W'.heap[g]? = W.heap[g]? := t.block g h2.lt (by show ¬ g ≤ c; omega)
  have key : ∀ o, W'.cell? ⟨g, o, none⟩ = W.cell? ⟨g, o, none⟩ := fun o => World.cell?_of_block (w := W) e
  refine ⟨⟨cur, turn_blk t h2 (by show ¬ g ≤ c; omega), h3⟩, fun i hi => ?_⟩
  obtain ⟨y1, y2, y3⟩ := h4 i hi
  exact ⟨(key _).trans y1, (key _).trans y2, (key _).trans y3⟩
theorem Stab.and {c : Nat} {R S : World → Prop} (h : Stab c R) (k : Stab c S) : Stab c (fun W => R W ∧ S W) := fun W W' t r => ⟨h W W' t r.1, k W W' t r.2⟩
/-- The copy as far as it has come. -/
structure TM (w W : World) (arg cs : Array Value) (R : World → Prop) : Prop where
  kb : Blk W w.heap.size arg 97
  kr : Blk W (w.heap.size + 1) #[.string ⟨#[]⟩, .slice none 0 0, .slice none 0 0, .slice none 0 0, .int .i64 0, .slice none 0 0, .slice none 0 0, .slice none 0 0] 104
  ko : Blk W (w.heap.size + 1 + 1) cs 104
  hB : Below w.heap.size w W
  rows : R W
  st : Stab (w.heap.size + 1 + 1) R
theorem TM.below {w W W' : World} {arg cs : Array Value} {R : World → Prop} (h : TM w W arg cs R) (hb : Below W.heap.size W W') : TM w W' arg cs R :=
  ⟨h.kb.below hb, h.kr.below hb, h.ko.below hb, h.hB.trans (hb.mono h.hB.size), h.st _ _ (turn_below hb) h.rows, h.st⟩
theorem TM.set {w W : World} {arg cs : Array Value} {R : World → Prop} (h : TM w W arg cs R) (i : Nat) (v : Value) : TM w (W.setCell ⟨w.heap.size + 1 + 1, i, none⟩ v) arg (cs.setIfInBounds i v) R :=
  ⟨h.kb.other _ _ (by dsimp only; omega), h.kr.other _ _ (by dsimp only; omega), h.ko.set i v, h.hB.setCell (by dsimp only; omega) _, h.st _ _ (turn_at _ _ _ _ _ (Nat.le_refl _)) h.rows, h.st⟩
theorem TM.add {w W : World} {arg cs : Array Value} {R S : World → Prop} (h : TM w W arg cs R) (r : S W) (s : Stab (w.heap.size + 1 + 1) S) : TM w W arg cs (fun W => R W ∧ S W) :=
  ⟨h.kb, h.kr, h.ko, h.hB, ⟨h.rows, r⟩, h.st.and s⟩
theorem upS_le (f : Nat → Nat) (n i : Nat) (hi : i < n) : f i ≤ upS f n := by
  have h1 := upS_mono f (i + 1) n (by omega)
  have h2 : upS f (i + 1) = upS f i + f i := rfl
  omega
def ToM (w : World) (nm : ByteArray) (ta : Option Addr) (tn tc : Nat) (tz : List Int) (ba : Option Addr) (bn bc : Nat) (bl : List Bk) (da : Option Addr) (dn dc : Nat) (dz : List Int) (bss : Int) (ra : Option Addr) (rn rc : Nat) (rz : List Int) (ia : Option Addr) (im ic : Nat) (ss : List ByteArray) (ea : Option Addr) (en ec : Nat) (es : List Ex) (e : Ending) (w' : World) : Prop :=
  ∃ g1 g2 g3 g5 g6 g7, e = .returned (.agg #[.string nm, .slice (some ⟨g1, 0, none⟩) tn tn, .slice (some ⟨g2, 0, none⟩) bn bn, .slice (some ⟨g3, 0, none⟩) dn dn, .int .i64 bss, .slice (some ⟨g5, 0, none⟩) rn rn, .slice (some ⟨g6, 0, none⟩) im im, .slice (some ⟨g7, 0, none⟩) en en]) ∧
    w.heap.size ≤ g1 ∧ g1 < g2 ∧ g2 < g3 ∧ g3 < g5 ∧ g5 < g6 ∧ g6 < g7 ∧ RowI w' g1 tz ∧ (∃ gs, gs.length = bn ∧ RowB w' g2 bn gs bl) ∧ Row8 w' g3 dz ∧ RowI w' g5 rz ∧ RowT w' g6 ss ∧ RowX w' g7 es ∧ Below w.heap.size w w'

set_option maxHeartbeats 4000000 in
theorem toModule_any (nm : ByteArray) (ta : Option Addr) (tn tc : Nat) (tz : List Int) (ba : Option Addr) (bn bc : Nat) (bl : List Bk) (da : Option Addr) (dn dc : Nat) (dz : List Int) (bss : Int) (ra : Option Addr) (rn rc : Nat) (rz : List Int) (ia : Option Addr) (im ic : Nat) (ss : List ByteArray) (ea : Option Addr) (en ec : Nat) (es : List Ex) (w : World) (h : MT w nm ta tn tc tz ba bn bc bl da dn dc dz bss ra rn rc rz ia im ic ss ea en ec es) (hs : mdSize nm tn bn bl dn rn im ss en es ≤ 1048576) :
    Calls Tryz.prog 52 #[.agg #[.string nm, .slice ta tn tc, .slice ba bn bc, .slice da dn dc, .int .i64 bss, .slice ra rn rc, .slice ia im ic, .slice ea en ec]] w (ToM w nm ta tn tc tz ba bn bc bl da dn dc dz bss ra rn rc rz ia im ic ss ea en ec es) := by
  have HSB := hide (show ∀ i, i < bn → (bl.getD i zB).2.1 ≤ 1048576 from fun i hi => by
    have := upS_le (fun j => (bl.getD j zB).2.1) bn i hi
    unfold mdSize at hs
    omega)
  obtain ⟨l1, l2, l3, l4, l5, l6⟩ : tn ≤ 1048576 ∧ bn ≤ 1048576 ∧ dn ≤ 1048576 ∧ rn ≤ 1048576 ∧ im ≤ 1048576 ∧ en ≤ 1048576 := by unfold mdSize at hs; omega
  have MX := h
  clear h hs
  have M0 : TM w (((w.alloc (.cells #[.string nm, .slice ta tn tc, .slice ba bn bc, .slice da dn dc, .int .i64 bss, .slice ra rn rc, .slice ia im ic, .slice ea en ec] 97)).alloc (.cells #[.string ⟨#[]⟩, .slice none 0 0, .slice none 0 0, .slice none 0 0, .int .i64 0, .slice none 0 0, .slice none 0 0, .slice none 0 0] 104)).alloc (.cells #[.string nm, .slice none 0 0, .slice none 0 0, .slice none 0 0, .int .i64 0, .slice none 0 0, .slice none 0 0, .slice none 0 0] 104)) #[.string nm, .slice ta tn tc, .slice ba bn bc, .slice da dn dc, .int .i64 bss, .slice ra rn rc, .slice ia im ic, .slice ea en ec] #[.string nm, .slice none 0 0, .slice none 0 0, .slice none 0 0, .int .i64 0, .slice none 0 0, .slice none 0 0, .slice none 0 0] (fun _ => True) :=
    ⟨((Blk.new w _ _).alloc _).alloc _, by have := (Blk.new (w.alloc (.cells #[.string nm, .slice ta tn tc, .slice ba bn bc, .slice da dn dc, .int .i64 bss, .slice ra rn rc, .slice ia im ic, .slice ea en ec] 97)) #[.string ⟨#[]⟩, .slice none 0 0, .slice none 0 0, .slice none 0 0, .int .i64 0, .slice none 0 0, .slice none 0 0, .slice none 0 0] 104).alloc (.cells #[.string nm, .slice none 0 0, .slice none 0 0, .slice none 0 0, .int .i64 0, .slice none 0 0, .slice none 0 0, .slice none 0 0] 104); simpa using this, by have := Blk.new ((w.alloc (.cells #[.string nm, .slice ta tn tc, .slice ba bn bc, .slice da dn dc, .int .i64 bss, .slice ra rn rc, .slice ia im ic, .slice ea en ec] 97)).alloc (.cells #[.string ⟨#[]⟩, .slice none 0 0, .slice none 0 0, .slice none 0 0, .int .i64 0, .slice none 0 0, .slice none 0 0, .slice none 0 0] 104)) #[.string nm, .slice none 0 0, .slice none 0 0, .slice none 0 0, .int .i64 0, .slice none 0 0, .slice none 0 0, .slice none 0 0] 104; simpa using this,
      (((Below.refl _ _).alloc (Nat.le_refl _) _).alloc (by simp) _).alloc (by simp; omega) _, trivial, fun _ _ _ _ => trivial⟩
  go_enter Tryz.func52, Tryz.ntmps52
  go_wp2_with fail
  have hB := M0.hB
  refine (toIntS_any ta tn tc tz _ (MX.t.below hB) (by omega)).mono ?_
  rintro e w1 ⟨rfl, hr, hb⟩
  have M1 := (M0.below hb).add (S := fun W => RowI W _ tz) hr (stab_i (by have := M0.ko.lt; simp at this ⊢ <;> omega))
  have z1 := hb.size
  have y1 : w.heap.size + 1 + 1 + 1 < w1.heap.size := by first | (have := hr.lt; simpa using this) | (obtain ⟨gs, _, ⟨cur, hk, _⟩, _⟩ := hr; have := hk.lt; simpa using this)
  simp only [World.size_alloc, size_setCell] at M1 z1
  clear hb hr hB M0
  obtain ⟨q0, q1, q2, q3, q4, q5, q6, q7⟩ := M1.kb.eight
  obtain ⟨o0, o1, o2, o3, o4, o5, o6, o7⟩ := M1.ko.eight
  have ofz := M1.ko.frozen
  have nlt := M1.ko.lt
  go_wp2_with fail
  clear q0 q1 q2 q3 q4 q5 q6 q7 o0 o1 o2 o3 o4 o5 o6 o7 ofz nlt
  replace M1 := M1.set 1 (.slice (some ⟨w.heap.size + 1 + 1 + 1, 0, none⟩) tn tn)
  simp only [List.setIfInBounds_toArray, List.set_cons_zero, List.set_cons_succ] at M1
  have hB := M1.hB
  refine (toIntSS_any ba bn bc bl _ (MX.b.below hB) (by omega) HSB.out).mono ?_
  rintro e w2 ⟨rfl, hr, hb⟩
  have M2 := (M1.below hb).add (S := fun W => ∃ gs, gs.length = bn ∧ RowB W _ bn gs bl) hr (stab_b (by have := M1.ko.lt; simp only [size_setCell] at this ⊢; omega))
  have z2 := hb.size
  have y2 : w1.heap.size < w2.heap.size := by first | (have := hr.lt; simpa using this) | (obtain ⟨gs, _, ⟨cur, hk, _⟩, _⟩ := hr; have := hk.lt; simpa using this)
  simp only [World.size_alloc, size_setCell] at M2 z2
  clear hb hr hB M1
  obtain ⟨q0, q1, q2, q3, q4, q5, q6, q7⟩ := M2.kb.eight
  obtain ⟨o0, o1, o2, o3, o4, o5, o6, o7⟩ := M2.ko.eight
  have ofz := M2.ko.frozen
  have nlt := M2.ko.lt
  go_wp2_with fail
  clear q0 q1 q2 q3 q4 q5 q6 q7 o0 o1 o2 o3 o4 o5 o6 o7 ofz nlt
  replace M2 := M2.set 2 (.slice (some ⟨w1.heap.size, 0, none⟩) bn bn)
  simp only [List.setIfInBounds_toArray, List.set_cons_zero, List.set_cons_succ] at M2
  have hB := M2.hB
  refine (toByteS_any da dn dc dz _ (MX.d.below hB) (by omega)).mono ?_
  rintro e w3 ⟨rfl, hr, hb⟩
  have M3 := (M2.below hb).add (S := fun W => Row8 W _ dz) hr (stab_8 (by have := M2.ko.lt; simp only [size_setCell] at this ⊢; omega))
  have z3 := hb.size
  have y3 : w2.heap.size < w3.heap.size := by first | (have := hr.lt; simpa using this) | (obtain ⟨gs, _, ⟨cur, hk, _⟩, _⟩ := hr; have := hk.lt; simpa using this)
  simp only [World.size_alloc, size_setCell] at M3 z3
  clear hb hr hB M2
  obtain ⟨q0, q1, q2, q3, q4, q5, q6, q7⟩ := M3.kb.eight
  obtain ⟨o0, o1, o2, o3, o4, o5, o6, o7⟩ := M3.ko.eight
  have ofz := M3.ko.frozen
  have nlt := M3.ko.lt
  go_wp2_with fail
  clear q0 q1 q2 q3 q4 q5 q6 q7 o0 o1 o2 o3 o4 o5 o6 o7 ofz nlt
  replace M3 := M3.set 3 (.slice (some ⟨w2.heap.size, 0, none⟩) dn dn)
  replace M3 := M3.set 4 (.int .i64 bss)
  simp only [List.setIfInBounds_toArray, List.set_cons_zero, List.set_cons_succ] at M3
  have hB := M3.hB
  refine (toIntS_any ra rn rc rz _ (MX.r.below hB) (by omega)).mono ?_
  rintro e w4 ⟨rfl, hr, hb⟩
  have M4 := (M3.below hb).add (S := fun W => RowI W _ rz) hr (stab_i (by have := M3.ko.lt; simp only [size_setCell] at this ⊢; omega))
  have z4 := hb.size
  have y4 : w3.heap.size < w4.heap.size := by first | (have := hr.lt; simpa using this) | (obtain ⟨gs, _, ⟨cur, hk, _⟩, _⟩ := hr; have := hk.lt; simpa using this)
  simp only [World.size_alloc, size_setCell] at M4 z4
  clear hb hr hB M3
  obtain ⟨q0, q1, q2, q3, q4, q5, q6, q7⟩ := M4.kb.eight
  obtain ⟨o0, o1, o2, o3, o4, o5, o6, o7⟩ := M4.ko.eight
  have ofz := M4.ko.frozen
  have nlt := M4.ko.lt
  go_wp2_with fail
  clear q0 q1 q2 q3 q4 q5 q6 q7 o0 o1 o2 o3 o4 o5 o6 o7 ofz nlt
  replace M4 := M4.set 5 (.slice (some ⟨w3.heap.size, 0, none⟩) rn rn)
  simp only [List.setIfInBounds_toArray, List.set_cons_zero, List.set_cons_succ] at M4
  have hB := M4.hB
  refine (toStringS_any ia im ic ss _ (MX.i.below hB) (by omega)).mono ?_
  rintro e w5 ⟨rfl, hr, hb⟩
  have M5 := (M4.below hb).add (S := fun W => RowT W _ ss) hr (stab_t (by have := M4.ko.lt; simp only [size_setCell] at this ⊢; omega))
  have z5 := hb.size
  have y5 : w4.heap.size < w5.heap.size := by first | (have := hr.lt; simpa using this) | (obtain ⟨gs, _, ⟨cur, hk, _⟩, _⟩ := hr; have := hk.lt; simpa using this)
  simp only [World.size_alloc, size_setCell] at M5 z5
  clear hb hr hB M4
  obtain ⟨q0, q1, q2, q3, q4, q5, q6, q7⟩ := M5.kb.eight
  obtain ⟨o0, o1, o2, o3, o4, o5, o6, o7⟩ := M5.ko.eight
  have ofz := M5.ko.frozen
  have nlt := M5.ko.lt
  go_wp2_with fail
  clear q0 q1 q2 q3 q4 q5 q6 q7 o0 o1 o2 o3 o4 o5 o6 o7 ofz nlt
  replace M5 := M5.set 6 (.slice (some ⟨w4.heap.size, 0, none⟩) im im)
  simp only [List.setIfInBounds_toArray, List.set_cons_zero, List.set_cons_succ] at M5
  have hB := M5.hB
  refine (toExportS_any ea en ec es _ (MX.e.below hB) (by omega)).mono ?_
  rintro e w6 ⟨rfl, hr, hb⟩
  have M6 := (M5.below hb).add (S := fun W => RowX W _ es) hr (stab_x (by have := M5.ko.lt; simp only [size_setCell] at this ⊢; omega))
  have z6 := hb.size
  have y6 : w5.heap.size < w6.heap.size := by first | (have := hr.lt; simpa using this) | (obtain ⟨gs, _, ⟨cur, hk, _⟩, _⟩ := hr; have := hk.lt; simpa using this)
  simp only [World.size_alloc, size_setCell] at M6 z6
  clear hb hr hB M5
  have M7 := M6.set 7 (.slice (some ⟨w5.heap.size, 0, none⟩) en en)
  simp only [List.setIfInBounds_toArray, List.set_cons_zero, List.set_cons_succ] at M7
  obtain ⟨WF, hWF⟩ : ∃ X, X = (((((((((w6.setCell ⟨w.heap.size + 1 + 1, 7, none⟩ (.slice (some ⟨w5.heap.size, 0, none⟩) en en)).setCell ⟨w.heap.size + 1, 0, none⟩ (.string nm)).setCell ⟨w.heap.size + 1, 1, none⟩ (.slice (some ⟨w.heap.size + 1 + 1 + 1, 0, none⟩) tn tn)).setCell ⟨w.heap.size + 1, 2, none⟩ (.slice (some ⟨w1.heap.size, 0, none⟩) bn bn)).setCell ⟨w.heap.size + 1, 3, none⟩ (.slice (some ⟨w2.heap.size, 0, none⟩) dn dn)).setCell ⟨w.heap.size + 1, 4, none⟩ (.int .i64 bss)).setCell ⟨w.heap.size + 1, 5, none⟩ (.slice (some ⟨w3.heap.size, 0, none⟩) rn rn)).setCell ⟨w.heap.size + 1, 6, none⟩ (.slice (some ⟨w4.heap.size, 0, none⟩) im im)).setCell ⟨w.heap.size + 1, 7, none⟩ (.slice (some ⟨w5.heap.size, 0, none⟩) en en)) := ⟨_, rfl⟩
  have kF : Blk WF (w.heap.size + 1) #[.string nm, .slice (some ⟨w.heap.size + 1 + 1 + 1, 0, none⟩) tn tn, .slice (some ⟨w1.heap.size, 0, none⟩) bn bn, .slice (some ⟨w2.heap.size, 0, none⟩) dn dn, .int .i64 bss, .slice (some ⟨w3.heap.size, 0, none⟩) rn rn, .slice (some ⟨w4.heap.size, 0, none⟩) im im, .slice (some ⟨w5.heap.size, 0, none⟩) en en] 104 := by
    have := ((((((((M7.kr.set 0 (.string nm)).set 1 (.slice (some ⟨w.heap.size + 1 + 1 + 1, 0, none⟩) tn tn)).set 2 (.slice (some ⟨w1.heap.size, 0, none⟩) bn bn)).set 3 (.slice (some ⟨w2.heap.size, 0, none⟩) dn dn)).set 4 (.int .i64 bss)).set 5 (.slice (some ⟨w3.heap.size, 0, none⟩) rn rn)).set 6 (.slice (some ⟨w4.heap.size, 0, none⟩) im im)).set 7 (.slice (some ⟨w5.heap.size, 0, none⟩) en en))
    simp only [List.setIfInBounds_toArray, List.set_cons_zero, List.set_cons_succ] at this
    rw [hWF]
    exact this
  have tF : Turn (fun j => j ≤ w.heap.size + 1 + 1) (w6.setCell ⟨w.heap.size + 1 + 1, 7, none⟩ (.slice (some ⟨w5.heap.size, 0, none⟩) en en)) WF := by
    rw [hWF]
    exact ((((((((Turn.refl (fun j => j ≤ w.heap.size + 1 + 1) (w6.setCell ⟨w.heap.size + 1 + 1, 7, none⟩ (.slice (some ⟨w5.heap.size, 0, none⟩) en en))).trans (turn_at _ _ (w.heap.size + 1) 0 (.string nm) (by omega))).trans (turn_at _ _ (w.heap.size + 1) 1 (.slice (some ⟨w.heap.size + 1 + 1 + 1, 0, none⟩) tn tn) (by omega))).trans (turn_at _ _ (w.heap.size + 1) 2 (.slice (some ⟨w1.heap.size, 0, none⟩) bn bn) (by omega))).trans (turn_at _ _ (w.heap.size + 1) 3 (.slice (some ⟨w2.heap.size, 0, none⟩) dn dn) (by omega))).trans (turn_at _ _ (w.heap.size + 1) 4 (.int .i64 bss) (by omega))).trans (turn_at _ _ (w.heap.size + 1) 5 (.slice (some ⟨w3.heap.size, 0, none⟩) rn rn) (by omega))).trans (turn_at _ _ (w.heap.size + 1) 6 (.slice (some ⟨w4.heap.size, 0, none⟩) im im) (by omega))).trans (turn_at _ _ (w.heap.size + 1) 7 (.slice (some ⟨w5.heap.size, 0, none⟩) en en) (by omega))
  have rF := M7.st _ _ tF M7.rows
  have bF : Below w.heap.size w WF := by
    rw [hWF]
    exact ((((((((M7.hB.setCell (p := ⟨w.heap.size + 1, 0, none⟩) (by dsimp only; omega) (.string nm)).setCell (p := ⟨w.heap.size + 1, 1, none⟩) (by dsimp only; omega) (.slice (some ⟨w.heap.size + 1 + 1 + 1, 0, none⟩) tn tn)).setCell (p := ⟨w.heap.size + 1, 2, none⟩) (by dsimp only; omega) (.slice (some ⟨w1.heap.size, 0, none⟩) bn bn)).setCell (p := ⟨w.heap.size + 1, 3, none⟩) (by dsimp only; omega) (.slice (some ⟨w2.heap.size, 0, none⟩) dn dn)).setCell (p := ⟨w.heap.size + 1, 4, none⟩) (by dsimp only; omega) (.int .i64 bss)).setCell (p := ⟨w.heap.size + 1, 5, none⟩) (by dsimp only; omega) (.slice (some ⟨w3.heap.size, 0, none⟩) rn rn)).setCell (p := ⟨w.heap.size + 1, 6, none⟩) (by dsimp only; omega) (.slice (some ⟨w4.heap.size, 0, none⟩) im im)).setCell (p := ⟨w.heap.size + 1, 7, none⟩) (by dsimp only; omega) (.slice (some ⟨w5.heap.size, 0, none⟩) en en))
  have HF := hide hWF
  have HRF := hide (And.intro rF bF)
  clear hWF tF rF bF M7
  obtain ⟨o0, o1, o2, o3, o4, o5, o6, o7⟩ := M6.ko.eight
  have ofz := M6.ko.frozen
  obtain ⟨p0, p1, p2, p3, p4, p5, p6, p7⟩ := M6.kr.eight
  have pfz := M6.kr.frozen
  obtain ⟨s0, s1, s2, s3, s4, s5, s6, s7⟩ := kF.eight
  have nlt := M6.ko.lt
  go_wp2_with fail
  rw [← HF.out]
  clear o0 o1 o2 o3 o4 o5 o6 o7 ofz p0 p1 p2 p3 p4 p5 p6 p7 pfz
  refine bodyPost_ret (v := .agg #[.string nm, .slice (some ⟨w.heap.size + 1 + 1 + 1, 0, none⟩) tn tn, .slice (some ⟨w1.heap.size, 0, none⟩) bn bn, .slice (some ⟨w2.heap.size, 0, none⟩) dn dn, .int .i64 bss, .slice (some ⟨w3.heap.size, 0, none⟩) rn rn, .slice (some ⟨w4.heap.size, 0, none⟩) im im, .slice (some ⟨w5.heap.size, 0, none⟩) en en]) (by simp [results, Tryz.results52, go_sem, s0, s1, s2, s3, s4, s5, s6, s7]) rfl ?_
  obtain ⟨⟨⟨⟨⟨⟨⟨_, r1⟩, r2⟩, r3⟩, r5⟩, r6⟩, r7⟩, hB⟩ := HRF.out
  exact ⟨w.heap.size + 1 + 1 + 1, w1.heap.size, w2.heap.size, w3.heap.size, w4.heap.size, w5.heap.size, rfl, by omega, by omega, by omega, by omega, by omega, by omega, r1, r2, r3, r5, r6, r7, hB⟩
end Go.Proofs.YtngdgogjlpjjpaeGreat
