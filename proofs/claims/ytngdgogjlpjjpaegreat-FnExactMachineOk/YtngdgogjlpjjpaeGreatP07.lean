import Derived.Maps.OwnSet
import Derived.Laws.IdiomStrings
import Derived.Test.YtngdgogjlpjjpaeGreatP00
import Derived.Test.YtngdgogjlpjjpaeGreatP04
import Derived.Test.YtngdgogjlpjjpaeGreatP05
namespace Go.Proofs.YtngdgogjlpjjpaeGreat
open Go.RowKit
set_option linter.unusedVariables false
set_option linter.unusedSimpArgs false
set_option maxRecDepth 100000
def RowB (w : World) (g n : Nat) (gs : List Nat) (bl : List Bk) : Prop :=
  (∃ cur, Blk w g cur 24 ∧ cur.size = n ∧ ∀ i, i < gs.length → cur[i]? = some (.slice (some ⟨gs.getD i 0, 0, none⟩) (bl.getD i zB).2.1 (bl.getD i zB).2.1)) ∧ (∀ i, i < gs.length → RowI w (gs.getD i 0) (bl.getD i zB).2.2.2 ∧ g < gs.getD i 0) ∧ (∀ i j, i < j → j < gs.length → gs.getD i 0 < gs.getD j 0)
theorem RowB.below {w w' : World} {g n : Nat} {gs : List Nat} {bl : List Bk} (h : RowB w g n gs bl) (hb : Below w.heap.size w w') : RowB w' g n gs bl := by
  obtain ⟨⟨cur, h1, h2, h3⟩, h4, h5⟩ := h
  exact ⟨⟨cur, h1.below hb, h2, h3⟩, fun i hi => ⟨(h4 i hi).1.below hb, (h4 i hi).2⟩, h5⟩
theorem RowB.cell {w : World} {g n : Nat} {gs : List Nat} {bl : List Bk} (h : RowB w g n gs bl) (k : Nat) (hk : k < n) : ∃ v, w.cell? ⟨g, k, none⟩ = some v := by
  obtain ⟨⟨cur, h1, h2, h3⟩, h4, h5⟩ := h
  refine ⟨cur[k], ?_⟩
  rw [h1.cell]
  simp [h2, hk]
theorem RowB.frozen {w : World} {g n : Nat} {gs : List Nat} {bl : List Bk} (h : RowB w g n gs bl) (k : Nat) : w.frozen? ⟨g, k, none⟩ = false := by
  obtain ⟨⟨cur, h1, h2, h3⟩, h4, h5⟩ := h
  exact h1.frozen k
theorem getD_snoc_lt (gs : List Nat) (x i : Nat) (h : i < gs.length) : (gs ++ [x]).getD i 0 = gs.getD i 0 := by
  simp [List.getD_eq_getElem?_getD, List.getElem?_append_left h]
theorem getD_snoc (gs : List Nat) (x : Nat) : (gs ++ [x]).getD gs.length 0 = x := by
  simp [List.getD_eq_getElem?_getD]
theorem RowB.push {w : World} {g n x : Nat} {gs : List Nat} {bl : List Bk} (h : RowB w g n gs bl) (hk : gs.length < n) (hr : RowI w x (bl.getD gs.length zB).2.2.2) (hx : g < x) (hi : ∀ i, i < gs.length → gs.getD i 0 < x) :
    RowB (w.setCell ⟨g, gs.length, none⟩ (.slice (some ⟨x, 0, none⟩) (bl.getD gs.length zB).2.1 (bl.getD gs.length zB).2.1)) g n (gs ++ [x]) bl := by
  obtain ⟨⟨cur, h1, h2, h3⟩, h4, h5⟩ := h
  have key : ∀ y zs, RowI w y zs → g ≠ y → RowI (w.setCell ⟨g, gs.length, none⟩ (.slice (some ⟨x, 0, none⟩) (bl.getD gs.length zB).2.1 (bl.getD gs.length zB).2.1)) y zs := fun y zs hy hne => by
    unfold RowI at *
    rw [heap_setCell_other _ _ _ _ (by dsimp only; omega)]
    exact hy
  refine ⟨⟨_, h1.set gs.length _, by simp [h2], fun i hi' => ?_⟩, fun i hi' => ?_, fun i j hij hj => ?_⟩
  · simp only [List.length_append, List.length_cons, List.length_nil] at hi'
    by_cases e : i = gs.length
    · subst e
      rw [getD_snoc]
      simp [h2, hk]
    · rw [getD_snoc_lt _ _ _ (by omega), ← h3 i (by omega)]
      rw [Array.getElem?_setIfInBounds_ne (by omega)]
  · simp only [List.length_append, List.length_cons, List.length_nil] at hi'
    by_cases e : i = gs.length
    · subst e
      rw [getD_snoc]
      exact ⟨key _ _ hr (by omega), hx⟩
    · rw [getD_snoc_lt _ _ _ (by omega)]
      exact ⟨key _ _ (h4 i (by omega)).1 (by have := (h4 i (by omega)).2; omega), (h4 i (by omega)).2⟩
  · simp only [List.length_append, List.length_cons, List.length_nil] at hj
    by_cases e : j = gs.length
    · subst e
      rw [getD_snoc, getD_snoc_lt _ _ _ hij]
      exact hi i hij
    · rw [getD_snoc_lt _ _ _ (by omega), getD_snoc_lt _ _ _ (by omega)]
      exact h5 i j hij (by omega)
def reb (gs : List Nat) (bl : List Bk) : List Bk := (List.range bl.length).map fun i => (some ⟨gs.getD i 0, 0, none⟩, (bl.getD i zB).2.1, (bl.getD i zB).2.1, (bl.getD i zB).2.2.2)
theorem reb_len (gs : List Nat) (bl : List Bk) : (reb gs bl).length = bl.length := by simp [reb]
theorem reb_at (gs : List Nat) (bl : List Bk) (i : Nat) (hi : i < bl.length) : (reb gs bl).getD i zB = (some ⟨gs.getD i 0, 0, none⟩, (bl.getD i zB).2.1, (bl.getD i zB).2.1, (bl.getD i zB).2.2.2) := by
  simp [reb, List.getD_eq_getElem?_getD, hi]
theorem RowB.bks {w w0 : World} {g n cap : Nat} {a : Option Addr} {gs : List Nat} {bl : List Bk} (h : RowB w g n gs bl) (hb : BKS w0 a n cap bl) (hg : gs.length = n) : BKS w (some ⟨g, 0, none⟩) n n (reb gs bl) := by
  obtain ⟨b1, b2, b3, b4, b5⟩ := hb
  obtain ⟨⟨cur, h1, h2, h3⟩, h4, h5⟩ := h
  refine ⟨by rw [reb_len, b1], b2, fun _ => ⟨g, 0, rfl, fun i hi => ?_⟩, fun i hi => ?_, Nat.le_refl _⟩
  · rw [reb_at _ _ _ (by omega), Nat.zero_add, h1.cell]
    exact h3 i (by omega)
  · rw [reb_at _ _ _ (by omega)]
    obtain ⟨c1, c2, c3, c4, c5⟩ := b4 i hi
    have hr := (h4 i (by omega)).1
    exact ⟨c1, c2, c3, fun _ => ⟨gs.getD i 0, 0, rfl, fun j hj => by rw [Nat.zero_add]; exact hr.cell j (by rw [c1]; exact hj)⟩, Nat.le_refl _⟩
theorem reb_bko (gs : List Nat) (bl : List Bk) : (reb gs bl).all bko = bl.all bko := by
  have key : ∀ i, i < bl.length → bko ((reb gs bl).getD i zB) = bko (bl.getD i zB) := fun i hi => by rw [reb_at _ _ _ hi]; rfl
  cases h : bl.all bko
  · obtain ⟨x, hx, hb⟩ := List.all_eq_false.1 h
    obtain ⟨i, hi, rfl⟩ := List.getElem_of_mem hx
    exact all_bad _ i (by rw [reb_len]; exact hi) (by rw [key i hi]; simpa [List.getD_eq_getElem?_getD, hi] using hb)
  · refine all_good _ fun j hj => ?_
    rw [reb_len] at hj
    rw [key j hj]
    have := List.all_eq_true.1 h _ (List.getElem_mem hj)
    simpa [List.getD_eq_getElem?_getD, hj] using this
theorem reb_cdo (gs : List Nat) (tn : Nat) (tz : List Int) (bn : Nat) (bl : List Bk) : cdo tn tz bn (reb gs bl) = cdo tn tz bn bl := by unfold cdo; rw [reb_bko]
theorem reb_pcn (gs : List Nat) (tn bn : Nat) (bl : List Bk) (b : Int) (h : bl.length = bn) : pcn tn bn (reb gs bl) b = pcn tn bn bl b := by
  unfold pcn
  split
  · rfl
  · split
    · rename_i h1 h2
      rw [reb_at _ _ _ (by omega)]
    · rfl
theorem reb_exo (gs : List Nat) (tn bn : Nat) (bl : List Bk) (n : Nat) (es : List Ex) (h : bl.length = bn) : exo tn bn (reb gs bl) n es = exo tn bn bl n es := by
  unfold exo ex1
  congr 2
  funext i
  rw [reb_pcn _ _ _ _ _ h]
theorem reb_mdo (gs : List Nat) (nm : ByteArray) (tn : Nat) (tz : List Int) (bn : Nat) (bl : List Bk) (dn : Nat) (bss : Int) (rn : Nat) (rz : List Int) (im : Nat) (ss : List ByteArray) (en : Nat) (es : List Ex) (h : bl.length = bn) :
    mdo nm tn tz bn (reb gs bl) dn bss rn rz im ss en es = mdo nm tn tz bn bl dn bss rn rz im ss en es := by
  unfold mdo
  rw [reb_cdo, reb_exo _ _ _ _ _ _ h]
theorem infoB : (Tryz.prog.info? 24).map (fun i => (i.zero, i.size, i.bytes)) = some (some (.slice none 0 0), 1, 24) := by kernel_rfl
theorem rowB_of_made {w : World} {base g n : Nat} {bl : List Bk} (h : w.ownsRow base 24 1 (.slice (some ⟨g, 0, none⟩) n n) n (madeCells (Value.cells (.slice none 0 0)) (n * 1)).toList) : RowB w g n [] bl := by
  obtain ⟨hl, h | ⟨g', cap, cur, hv, hb, hh, h1, h2, h3, h4⟩⟩ := h
  · simp at h
  · simp at hv
    obtain ⟨rfl, rfl⟩ := hv
    exact ⟨⟨cur, hh, by simpa using h3, fun i hi => by simp at hi⟩, fun i hi => by simp at hi, fun i j _ hj => by simp at hj⟩
set_option maxHeartbeats 2000000 in
theorem toIntSS_any (a : Option Addr) (n cap : Nat) (bl : List Bk) (w : World) (h : BKS w a n cap bl) (hn : n ≤ 1048576) (hs : ∀ i, i < n → (bl.getD i zB).2.1 ≤ 1048576) :
    Calls Tryz.prog 137 #[.slice a n cap] w fun e w' => e = .returned (.slice (some ⟨w.heap.size, 0, none⟩) n n) ∧ (∃ gs, gs.length = n ∧ RowB w' w.heap.size n gs bl) ∧ Below w.heap.size w w' := by
  obtain ⟨i0, hi, hz0, hz1, hz2⟩ := info_parts infoB
  have hl := h.1
  go_enter Tryz.func137, Tryz.ntmps137
  go_wp2_with (at_make; refine wpList_make_full _ rfl _ _ 93 rfl w.heap.size 24 i0 (.slice none 0 0) 1 Tryz.underlying93 hi hz0 hz1 .i64 .i64 _ _ n rfl rfl rfl rfl (by rw [hz2]; omega) (by unfold maxLen; omega) (Nat.le_refl _) ?_; intro w1 hown hgr)
  have hrow : RowB w1 w.heap.size n [] bl := rowB_of_made hown
  have hbel := below_grown hgr
  clear hown hgr hi hz0 hz1 hz2
  go_loopw [4] (fun i wr => ∃ k : Nat, k ≤ n ∧ i = .int .i64 k ∧ (∃ gs, gs.length = k ∧ RowB wr w.heap.size n gs bl) ∧ Below w.heap.size w wr) (fun i _ => n - (intOf i).toNat)
  case atStart => exact ⟨0, Nat.zero_le _, rfl, ⟨[], rfl, hrow⟩, hbel⟩
  case round =>
    obtain ⟨k, hk, rfl, ⟨gs, hgs, hR⟩, hB⟩ := hrel
    clear hrow hbel
    by_cases hlt : k < n
    · have hlt' : (k : Int) < (n : Int) := by omega
      obtain ⟨b, off, rfl⟩ := h.addr (by omega)
      have hb' := h.below hB
      have hck := hb'.at k hlt
      have hik := hb'.2.2.2.1 k hlt
      have hsk := hs k hlt
      have HT := hide (fun w h => toIntS_any (bl.getD k zB).1 (bl.getD k zB).2.1 (bl.getD k zB).2.2.1 (bl.getD k zB).2.2.2 w h hsk)
      have HP := hide (fun (W : World) (hW : Below wr.heap.size wr W) (hr : RowI W wr.heap.size (bl.getD k zB).2.2.2) => by
        have hp := RowB.push (hR.below hW) (by omega) (by rw [hgs]; exact hr) (by obtain ⟨⟨cur, h1, _⟩, _⟩ := hR; exact h1.lt) (fun i hi => (hR.2.1 i hi).1.lt)
        rw [hgs] at hp
        exact hp)
      have HF := hide (fun (W : World) (hW : Below wr.heap.size wr W) => And.intro ((hR.below hW).cell k hlt) ((hR.below hW).frozen k))
      clear hb' hsk
      generalize (bl.getD k zB).1 = xa at *
      generalize (bl.getD k zB).2.1 = xn at *
      generalize (bl.getD k zB).2.2.1 = xc at *
      generalize (bl.getD k zB).2.2.2 = xz at *
      go_wp2_with fail
      refine (HT.out _ hik).mono ?_
      rintro e w2 ⟨rfl, hr2, hb2⟩
      obtain ⟨⟨v0, hv0⟩, hfz⟩ := HF.out _ hb2
      have HS := hide (HP.out _ hb2 hr2)
      have HB2 := hide ((hB.trans (hb2.mono hB.size)).setCell (p := ⟨w.heap.size, k, none⟩) (Nat.le_refl _) (.slice (some ⟨wr.heap.size, 0, none⟩) xn xn))
      clear HP HF hR hik HT hck hr2
      go_wp2
      go_roundw
      case rel => exact ⟨k + 1, by omega, by go_num, ⟨gs ++ [wr.heap.size], by simp [hgs], HS.out⟩, HB2.out⟩
      case measure => simp [intOf]; omega
    · have e : Hid (k = n) := by show k = n; omega
      go_wp2
      go_ret
      exact ⟨rfl, ⟨gs, by rw [hgs, e.out], hR⟩, hB⟩
set_option maxHeartbeats 1000000 in
theorem eqIntSS_same (a a' : Option Addr) (n cap cap' : Nat) (bl bl' : List Bk) (w : World) (h : BKS w a n cap bl) (h' : BKS w a' n cap' bl') (hz : ∀ i, i < n → (bl'.getD i zB).2.1 = (bl.getD i zB).2.1 ∧ (bl'.getD i zB).2.2.2 = (bl.getD i zB).2.2.2) :
    Calls Tryz.prog 144 #[.slice a n cap, .slice a' n cap'] w fun e w' => e = .returned (.bool true) ∧ Below w.heap.size w w' := by
  have hmx := h.2.1
  unfold maxLen at hmx
  have hne : ((n : Int) != (n : Int)) = false := by simp
  go_enter Tryz.func144, Tryz.ntmps144
  go_wp2
  go_loopw [5] (fun i wr => ∃ k : Nat, k ≤ n ∧ i = .int .i64 k ∧ Below w.heap.size w wr) (fun i _ => n - (intOf i).toNat)
  case atStart => exact ⟨0, Nat.zero_le _, rfl, Below.refl _ _⟩
  case round =>
    obtain ⟨k, hk, rfl, hB⟩ := hrel
    by_cases hlt : k < n
    · have hlt' : (k : Int) < (n : Int) := by omega
      obtain ⟨b, off, rfl⟩ := h.addr (by omega)
      obtain ⟨b', off', rfl⟩ := h'.addr (by omega)
      have q1 := (h.below hB).at k hlt
      have p1 := (h'.below hB).at k hlt
      have i1 := (h.below hB).2.2.2.1 k hlt
      have i2 := (h'.below hB).2.2.2.1 k hlt
      obtain ⟨z1, z2⟩ := hz k hlt
      rw [z1, z2] at i2
      rw [z1] at p1
      clear z1 z2
      generalize (bl.getD k zB).1 = xa at *
      generalize (bl.getD k zB).2.1 = xn at *
      generalize (bl.getD k zB).2.2.1 = xc at *
      generalize (bl.getD k zB).2.2.2 = xz at *
      generalize (bl'.getD k zB).1 = ya at *
      generalize (bl'.getD k zB).2.2.1 = yc at *
      have HE := hide (fun w h k => eqIntS_any xa ya xn xc xn yc xz xz w h k)
      rw [decide_eq_true rfl] at HE
      go_wp2
      go_region_held3 (fun w' => w'.cell? ⟨b, off + k, none⟩ = some (.slice xa xn xc) ∧ w'.cell? ⟨b', off' + k, none⟩ = some (.slice ya xn yc)) (go_keep)
        (first
          | (go_at_call 60; refine (HE.out _ (by exact i1) (by exact i2)).mono ?_; rintro e w1 ⟨rfl, hb1⟩; replace hb1 := undrew hb1; obtain ⟨hc1, hf1⟩ := bcell hb1; have hlb := World.block_lt_of_cell? _ _ q1; have hlb' := World.block_lt_of_cell? _ _ p1))
      clear hc1 hf1 q1 p1
      go_wp2
      go_roundw
      case rel => exact ⟨k + 1, by omega, by go_num, hB.trans (hb1.mono hB.size)⟩
      case measure => simp [intOf]; omega
    · go_wp2
      go_ret
      exact ⟨rfl, hB⟩
theorem cellO {w : World} {g o o' b : Nat} {v : Value} (h : b ≠ g ∨ o' ≠ o) : (w.setCell ⟨g, o, none⟩ v).cell? ⟨b, o', none⟩ = w.cell? ⟨b, o', none⟩ :=
  World.cell?_setCell_other _ _ _ _ (by intro e; injection e; rcases h with h | h <;> simp_all)
theorem cellS {w : World} {g o : Nat} {u v : Value} (h : w.cell? ⟨g, o, none⟩ = some u) : (w.setCell ⟨g, o, none⟩ v).cell? ⟨g, o, none⟩ = some v := World.cell?_setCell_same _ _ _ h
def At3 (w : World) (g o : Nat) (x : Ex) : Prop := w.cell? ⟨g, o, none⟩ = some (.string x.1) ∧ w.cell? ⟨g, o + 1, none⟩ = some (.int .i64 x.2.1) ∧ w.cell? ⟨g, o + 2, none⟩ = some (.int .i64 x.2.2)
def set3 (w : World) (g o : Nat) (x : Ex) : World := ((w.setCell ⟨g, o, none⟩ (.string x.1)).setCell ⟨g, o + 1, none⟩ (.int .i64 x.2.1)).setCell ⟨g, o + 2, none⟩ (.int .i64 x.2.2)
theorem set3_other (w : World) (g o b o' : Nat) (r : Ex) (h : b ≠ g ∨ o' < o ∨ o + 3 ≤ o') : (set3 w g o r).cell? ⟨b, o', none⟩ = w.cell? ⟨b, o', none⟩ := by
  unfold set3
  rw [cellO (by omega), cellO (by omega), cellO (by omega)]
theorem set3_at {w : World} {g o : Nat} {q : Ex} (h : At3 w g o q) (r : Ex) : At3 (set3 w g o r) g o r := by
  obtain ⟨h1, h2, h3⟩ := h
  unfold set3
  refine ⟨?_, ?_, ?_⟩
  · rw [cellO (by omega), cellO (by omega)]; exact cellS h1
  · rw [cellO (by omega)]; exact cellS (by rw [cellO (by omega)]; exact h2)
  · exact cellS (by rw [cellO (by omega), cellO (by omega)]; exact h3)
theorem set3_far {w : World} {g o b o' : Nat} {q : Ex} (h : At3 w b o' q) (r : Ex) (hf : b ≠ g ∨ o' + 3 ≤ o ∨ o + 3 ≤ o') : At3 (set3 w g o r) b o' q := by
  unfold At3
  rw [set3_other _ _ _ _ _ _ (by omega), set3_other _ _ _ _ _ _ (by omega), set3_other _ _ _ _ _ _ (by omega)]
  exact h
theorem set3_blk {w : World} {g : Nat} {cur : Array Value} {t : TypeId} (h : Blk w g cur t) (o : Nat) (r : Ex) : ∃ cur', Blk (set3 w g o r) g cur' t ∧ cur'.size = cur.size :=
  ⟨_, (((h.set o _).set (o + 1) _).set (o + 2) _), by simp⟩
theorem set3_below {B : Nat} {a w : World} (h : Below B a w) {g : Nat} (hg : B ≤ g) (o : Nat) (r : Ex) : Below B a (set3 w g o r) :=
  ((h.setCell (p := ⟨g, o, none⟩) hg _).setCell (p := ⟨g, o + 1, none⟩) hg _).setCell (p := ⟨g, o + 2, none⟩) hg _
theorem At3.below {w w' : World} {g o : Nat} {x : Ex} (h : At3 w g o x) (hb : Below w.heap.size w w') : At3 w' g o x := by
  have key : ∀ o v, w.cell? ⟨g, o, none⟩ = some v → w'.cell? ⟨g, o, none⟩ = some v := fun o v hv => (hb.cell (World.block_lt_of_cell? w _ hv)).trans hv
  exact ⟨key _ _ h.1, key _ _ h.2.1, key _ _ h.2.2⟩
def RowX (w : World) (g : Nat) (es : List Ex) : Prop :=
  (∃ cur, Blk w g cur 207 ∧ cur.size = es.length * 3) ∧ ∀ i, i < es.length → At3 w g (i * 3) (es.getD i zE)
theorem RowX.lt {w : World} {g : Nat} {es : List Ex} (h : RowX w g es) : g < w.heap.size := by obtain ⟨⟨cur, hb, _⟩, _⟩ := h; exact hb.lt
theorem RowX.below {w w' : World} {g : Nat} {es : List Ex} (h : RowX w g es) (hb : Below w.heap.size w w') : RowX w' g es := by
  obtain ⟨⟨cur, hc, hs⟩, hr⟩ := h
  exact ⟨⟨cur, hc.below hb, hs⟩, fun i hi => (hr i hi).below hb⟩
theorem RowX.frozen {w : World} {g : Nat} {es : List Ex} (h : RowX w g es) (i : Nat) : w.frozen? ⟨g, i, none⟩ = false := by obtain ⟨⟨cur, hb, _⟩, _⟩ := h; exact hb.frozen i
theorem RowX.set {w : World} {g : Nat} {es : List Ex} (h : RowX w g es) (i : Nat) (hi : i < es.length) (r : Ex) : RowX (set3 w g (i * 3) r) g (es.set i r) := by
  obtain ⟨⟨cur, hc, hs⟩, hr⟩ := h
  obtain ⟨cur', hc', hs'⟩ := set3_blk hc (i * 3) r
  refine ⟨⟨cur', hc', by rw [hs', hs, List.length_set]⟩, fun j hj => ?_⟩
  rw [List.length_set] at hj
  by_cases e : i = j
  · subst e
    have : (es.set i r).getD i zE = r := by simp [List.getD_eq_getElem?_getD, hi]
    rw [this]
    exact set3_at (hr i hi) r
  · have : (es.set i r).getD j zE = es.getD j zE := by simp [List.getD_eq_getElem?_getD, e]
    rw [this]
    exact set3_far (hr j hj) r (by omega)
theorem RowX.te {w w0 : World} {g n cap : Nat} {a : Option Addr} {es : List Ex} (h : RowX w g es) (k : TE w0 a n cap es) : TE w (some ⟨g, 0, none⟩) n n es := by
  obtain ⟨h1, h2, h3, h4, h5⟩ := k
  exact ⟨h1, h2, h3, fun _ => ⟨g, 0, rfl, fun i hi => by rw [Nat.zero_add]; exact h.2 i (by omega)⟩, Nat.le_refl _⟩
theorem infoX : (Tryz.prog.info? 207).map (fun i => (i.zero, i.size, i.bytes)) = some (some (.agg #[.string ⟨#[]⟩, .int .i64 0, .int .i64 0]), 3, 32) := by kernel_rfl
theorem rowX_of_made {w : World} {base g n : Nat} (h : w.ownsRow base 207 3 (.slice (some ⟨g, 0, none⟩) n n) n (madeCells (Value.cells (.agg #[.string ⟨#[]⟩, .int .i64 0, .int .i64 0])) (n * 3)).toList) : RowX w g (List.replicate n zE) := by
  obtain ⟨hl, h | ⟨g', cap, cur, hv, hb, hh, h1, h2, h3, h4⟩⟩ := h
  · simp at h
  · simp at hv
    obtain ⟨rfl, rfl⟩ := hv
    have e : cur.toList = (madeCells (Value.cells (.agg #[.string ⟨#[]⟩, .int .i64 0, .int .i64 0])) (n * 3)).toList := by
      rw [← h4, List.take_of_length_le (by simp [h3])]
    have e2 : cur = madeCells (Value.cells (.agg #[.string ⟨#[]⟩, .int .i64 0, .int .i64 0])) (n * 3) := Array.toList_inj.1 e
    have hB : Blk w g cur 207 := hh
    refine ⟨⟨cur, hB, by simp [h3]⟩, fun i hi => ?_⟩
    simp at hi
    have hcell : ∀ j, j < 3 → w.cell? ⟨g, i * 3 + j, none⟩ = #[Value.string ⟨#[]⟩, .int .i64 0, .int .i64 0][j]? := by
      intro j hj
      rw [hB.cell, e2]
      have hm : (i * 3 + j) % 3 = j := by omega
      simp [madeCells, Value.cells, show i * 3 + j < n * 3 by omega, hm]
      match j, hj with
      | 0, _ => rfl
      | 1, _ => rfl
      | 2, _ => rfl
    have hz : (List.replicate n zE).getD i zE = zE := by simp [List.getD_eq_getElem?_getD, hi]
    rw [hz]
    exact ⟨hcell 0 (by omega), hcell 1 (by omega), hcell 2 (by omega)⟩
def midX (es : List Ex) (k : Nat) : List Ex := (List.range es.length).map (fun i => if i < k then es.getD i zE else zE)
theorem midX_len (es : List Ex) (k : Nat) : (midX es k).length = es.length := by simp [midX]
theorem midX_zero (es : List Ex) : midX es 0 = List.replicate es.length zE := by
  apply List.ext_getElem
  · simp [midX]
  · intro i h1 h2; simp [midX]
theorem midX_all (es : List Ex) : midX es es.length = es := by
  apply List.ext_getElem
  · simp [midX]
  · intro i h1 h2; simp [midX, h2]
theorem midX_set (es : List Ex) (k : Nat) (h : k < es.length) : (midX es k).set k (es.getD k zE) = midX es (k + 1) := by
  apply List.ext_getElem
  · simp [midX]
  · intro i h1 h2
    simp only [midX, List.getElem_set, List.getElem_map, List.getElem_range]
    by_cases hik : k = i
    · subst hik; simp
    · by_cases h3 : i < k
      · simp [hik, h3, show i < k + 1 by omega]
      · simp [hik, h3, show ¬ i < k + 1 by omega]
set_option maxHeartbeats 1000000 in
theorem toExportS_any (x : Option Addr) (n cap : Nat) (es : List Ex) (w : World) (h : TE w x n cap es) (hn : n ≤ 1048576) :
    Calls Tryz.prog 139 #[.slice x n cap] w fun e w' => e = .returned (.slice (some ⟨w.heap.size, 0, none⟩) n n) ∧ RowX w' w.heap.size es ∧ Below w.heap.size w w' := by
  obtain ⟨i0, hi, hz0, hz1, hz2⟩ := info_parts infoX
  have hl := h.1
  go_enter Tryz.func139, Tryz.ntmps139
  go_wp2_with (at_make; refine wpList_make_full _ rfl _ _ 102 rfl w.heap.size 207 i0 (.agg #[.string ⟨#[]⟩, .int .i64 0, .int .i64 0]) 3 Tryz.underlying102 hi hz0 hz1 .i64 .i64 _ _ n rfl rfl rfl rfl (by rw [hz2]; omega) (by unfold maxLen; omega) (Nat.le_refl _) ?_; intro w1 hown hgr)
  have hrow := rowX_of_made hown
  have hbel := below_grown hgr
  clear hown hgr hi hz0 hz1 hz2
  go_loopw [4] (fun i wr => ∃ k : Nat, k ≤ n ∧ i = .int .i64 k ∧ RowX wr w.heap.size (midX es k) ∧ Below w.heap.size w wr) (fun i _ => n - (intOf i).toNat)
  case atStart => exact ⟨0, Nat.zero_le _, rfl, by rw [midX_zero, hl]; exact hrow, hbel⟩
  case round =>
    obtain ⟨k, hk, rfl, hR, hB⟩ := hrel
    clear hrow hbel
    by_cases hlt : k < n
    · have hlt' : (k : Int) < (n : Int) := by omega
      obtain ⟨b, off, rfl, hat⟩ := (h.below hB).at k hlt
      have hset : ∀ W, Below wr.heap.size wr W → RowX (set3 W w.heap.size (k * 3) (es.getD k zE)) w.heap.size (midX es (k + 1)) := by
        intro W hW
        have := (hR.below hW).set k (by rw [midX_len]; omega) (es.getD k zE)
        rw [midX_set es k (by omega)] at this
        exact this
      have HSET := hide hset
      clear hset
      have hg := hR.2 k (by rw [midX_len]; omega)
      generalize es.getD k zE = r at *
      generalize (midX es k).getD k zE = r0 at *
      obtain ⟨g1, g2, g3⟩ := r
      obtain ⟨q1, q2, q3⟩ := hat
      simp only at q1 q2 q3
      go_wp2_with fail
      refine (toExport_any g1 g2 g3 _).mono ?_
      rintro e w2 ⟨rfl, hb2⟩
      have hB2 := hB.trans (hb2.mono hB.size)
      have hg2 := hg.below hb2
      have hfz : ∀ i, w2.frozen? ⟨w.heap.size, i, none⟩ = false := (hR.below hb2).frozen
      have HS2 := hide (HSET.out _ hb2)
      have HB2 := hide (set3_below hB2 (Nat.le_refl _) (k * 3) (g1, g2, g3))
      clear HSET hR q1 q2 q3
      obtain ⟨p1, p2, p3⟩ := hg2
      go_wp2
      go_roundw
      case rel => exact ⟨k + 1, by omega, by go_num, HS2.out, HB2.out⟩
      case measure => simp [intOf]; omega
    · have e : Hid (k = n) := by show k = n; omega
      go_wp2
      go_ret
      exact ⟨rfl, by rw [e.out, ← hl, midX_all] at hR; exact hR, hB⟩
set_option maxHeartbeats 1000000 in
theorem eqExportS_same (x x' : Option Addr) (n cap cap' : Nat) (es : List Ex) (w : World) (h : TE w x n cap es) (h' : TE w x' n cap' es) :
    Calls Tryz.prog 146 #[.slice x n cap, .slice x' n cap'] w fun e w' => e = .returned (.bool true) ∧ Below w.heap.size w w' := by
  have hmx := h.2.1
  unfold maxLen at hmx
  have hne : ((n : Int) != (n : Int)) = false := by simp
  go_enter Tryz.func146, Tryz.ntmps146
  go_wp2
  go_loopw [5] (fun i wr => ∃ k : Nat, k ≤ n ∧ i = .int .i64 k ∧ Below w.heap.size w wr) (fun i _ => n - (intOf i).toNat)
  case atStart => exact ⟨0, Nat.zero_le _, rfl, Below.refl _ _⟩
  case round =>
    obtain ⟨k, hk, rfl, hB⟩ := hrel
    by_cases hlt : k < n
    · have hlt' : (k : Int) < (n : Int) := by omega
      obtain ⟨b, off, rfl, q1, q2, q3⟩ := (h.below hB).at k hlt
      obtain ⟨b', off', rfl, p1, p2, p3⟩ := (h'.below hB).at k hlt
      generalize es.getD k zE = r at *
      obtain ⟨g1, g2, g3⟩ := r
      simp only at q1 q2 q3 p1 p2 p3
      go_wp2
      go_region_held3 (fun w' => w'.cell? ⟨b, off + k * 3, none⟩ = some (.string g1) ∧ w'.cell? ⟨b, off + k * 3 + 1, none⟩ = some (.int .i64 g2) ∧ w'.cell? ⟨b, off + k * 3 + 2, none⟩ = some (.int .i64 g3) ∧
          w'.cell? ⟨b', off' + k * 3, none⟩ = some (.string g1) ∧ w'.cell? ⟨b', off' + k * 3 + 1, none⟩ = some (.int .i64 g2) ∧ w'.cell? ⟨b', off' + k * 3 + 2, none⟩ = some (.int .i64 g3)) (go_keep)
        (first
          | (go_at_call 209; refine (eqExport_same g1 g2 g3 _).mono ?_; rintro e w1 ⟨rfl, hb1⟩; replace hb1 := undrew hb1; obtain ⟨hc1, hf1⟩ := bcell hb1; have hlb := World.block_lt_of_cell? _ _ q1; have hlb' := World.block_lt_of_cell? _ _ p1))
      clear hc1 hf1 q1 q2 q3 p1 p2 p3
      go_wp2
      go_roundw
      case rel => exact ⟨k + 1, by omega, by go_num, hB.trans (hb1.mono hB.size)⟩
      case measure => simp [intOf]; omega
    · go_wp2
      go_ret
      exact ⟨rfl, hB⟩
end Go.Proofs.YtngdgogjlpjjpaeGreat
namespace Go.Proofs.YtngdgogjlpjjpaeGreat
open Go.RowKit
set_option linter.unusedVariables false
theorem take_eq_succ (xs ys : List Int) (k : Nat) (h : xs.take k = ys.take k) (hx : k < xs.length) (hy : k < ys.length) (he : xs.getD k 0 = ys.getD k 0) : xs.take (k + 1) = ys.take (k + 1) := by
  rw [List.take_succ_eq_append_getElem hx, List.take_succ_eq_append_getElem hy, h]
  simp [List.getD_eq_getElem?_getD, hx, hy] at he
  rw [he]
set_option maxHeartbeats 1000000 in
theorem eqByteS_any (a a' : Option Addr) (n cap n' cap' : Nat) (xs ys : List Int) (w : World) (h : BS w a n cap xs) (h' : BS w a' n' cap' ys) :
    Calls Tryz.prog 88 #[.slice a n cap, .slice a' n' cap'] w fun e w' => e = .returned (.bool (decide (xs = ys))) ∧ Below w.heap.size w w' := by
  obtain ⟨hl, hmx, hr, hc, _⟩ := h
  obtain ⟨hl', hmx', hr', hc', _⟩ := h'
  unfold maxLen at hmx hmx'
  by_cases hn : n = n'
  · subst hn
    have hne : ((n : Int) != (n : Int)) = false := by simp
    by_cases hn0 : n = 0
    · subst hn0
      obtain rfl : xs = [] := List.eq_nil_of_length_eq_zero hl
      obtain rfl : ys = [] := List.eq_nil_of_length_eq_zero hl'
      clear hc hc'
      go_enter Tryz.func88, Tryz.ntmps88
      go_wp2
      go_loop [5] (fun i => i = .int .i64 0) (fun _ => 0)
      case atStart => rfl
      case round =>
        obtain rfl := hrel
        go_wp2
        go_ret
        exact ⟨rfl, Below.refl _ _⟩
    · obtain ⟨b, off, rfl, hd⟩ := hc hn0
      obtain ⟨b', off', rfl, hd'⟩ := hc' hn0
      clear hc hc'
      go_enter Tryz.func88, Tryz.ntmps88
      go_wp2
      go_loopw [5] (fun i wr => ∃ k : Nat, k ≤ n ∧ i = .int .i64 k ∧ xs.take k = ys.take k ∧ Below w.heap.size w wr) (fun i _ => n - (intOf i).toNat)
      case atStart => exact ⟨0, Nat.zero_le _, rfl, by simp, Below.refl _ _⟩
      case round =>
        obtain ⟨k, hk, rfl, hT, hB⟩ := hrel
        by_cases hlt : k < n
        · have hlt' : (k : Int) < (n : Int) := by omega
          have hck : wr.cell? ⟨b, off + k, none⟩ = some (.int .u8 (xs.getD k 0)) := (hB.cell (World.block_lt_of_cell? w _ (hd k hlt))).trans (hd k hlt)
          have hck' : wr.cell? ⟨b', off' + k, none⟩ = some (.int .u8 (ys.getD k 0)) := (hB.cell (World.block_lt_of_cell? w _ (hd' k hlt))).trans (hd' k hlt)
          by_cases he : xs.getD k 0 = ys.getD k 0
          · have hS := take_eq_succ xs ys k hT (by omega) (by omega) he
            have HS : Hid (xs.take (k + 1) = ys.take (k + 1)) := hS
            rw [he] at hck
            clear hS hT hd hd' he
            generalize ys.getD k 0 = z at *
            have hz : (z != z) = false := by simp
            go_wp2
            go_quiet (fail)
            go_wp2
            go_roundw
            case rel => exact ⟨k + 1, by omega, by go_num, HS.out, below_drewN hB _⟩
            case measure => simp [intOf]; omega
          · have hf : Hid (decide (xs = ys) = false) := by
              show _ = _
              simp
              intro e
              exact he (by rw [e])
            have hz : (xs.getD k 0 != ys.getD k 0) = true := by simpa using he
            clear hT hd hd' he
            generalize ys.getD k 0 = z at *
            generalize xs.getD k 0 = z' at *
            go_wp2
            go_quiet (fail)
            go_wp2
            go_ret
            exact ⟨ret_bool hf.out.symm, below_drewN hB _⟩
        · have hf : Hid (decide (xs = ys) = true) := by
            show _ = _
            simp
            rw [List.take_of_length_le (by omega), List.take_of_length_le (by omega)] at hT
            exact hT
          clear hT hd hd'
          go_wp2
          go_ret
          exact ⟨ret_bool hf.out.symm, hB⟩
  · have hf : Hid (decide (xs = ys) = false) := by
      show _ = _
      simp
      intro e
      rw [e] at hl
      omega
    have hne : ((n : Int) != (n' : Int)) = true := by simp; omega
    clear hc hc'
    go_enter Tryz.func88, Tryz.ntmps88
    go_wp2
    go_ret
    exact ⟨ret_bool hf.out.symm, Below.refl _ _⟩
end Go.Proofs.YtngdgogjlpjjpaeGreat
namespace Go.Proofs.YtngdgogjlpjjpaeGreat
open Go.RowKit
set_option linter.unusedVariables false
set_option linter.unusedSimpArgs false
set_option maxRecDepth 100000
structure PMod where
  nm : ByteArray
  tz : List Int
  bl : List (List Int)
  dz : List Int
  bss : Int
  rz : List Int
  ss : List ByteArray
  es : List Ex
def bkOf (bl : List (List Int)) : List Bk := bl.map fun l => (none, l.length, l.length, l)
def mdoP (P : PMod) : Int := mdo P.nm P.tz.length P.tz P.bl.length (bkOf P.bl) P.dz.length P.bss P.rz.length P.rz P.ss.length P.ss P.es.length P.es
theorem mdo_bks {nm : ByteArray} {tn : Nat} {tz : List Int} {bl bl' : List Bk} {dn : Nat} {bss : Int} {rn : Nat} {rz : List Int} {im : Nat} {ss : List ByteArray} {en : Nat} {es : List Ex} (hl : bl.length = bl'.length) (h : ∀ i, i < bl.length → (bl.getD i zB).2.1 = (bl'.getD i zB).2.1 ∧ (bl.getD i zB).2.2.2 = (bl'.getD i zB).2.2.2) :
    mdo nm tn tz bl.length bl dn bss rn rz im ss en es = mdo nm tn tz bl.length bl' dn bss rn rz im ss en es := by
  have e : reb [] bl = reb [] bl' := by
    unfold reb
    rw [← hl]
    apply List.map_congr_left
    intro i hi
    have := h i (by simpa using hi)
    rw [this.1, this.2]
  rw [← reb_mdo [] nm tn tz bl.length bl dn bss rn rz im ss en es rfl, e, reb_mdo [] nm tn tz bl.length bl' dn bss rn rz im ss en es hl.symm]
end Go.Proofs.YtngdgogjlpjjpaeGreat
namespace Go.Proofs.YtngdgogjlpjjpaeGreat
open Go.RowKit
set_option linter.unusedVariables false
def cfo (s w k d : Int) : Bool := decide (0 ≤ s ∧ s ≤ 4 ∧ 1 ≤ w ∧ w ≤ 64 ∧ 0 ≤ k ∧ k ≤ 1024 ∧ k % 32 = 0 ∧ 0 ≤ d ∧ d ≤ 100)
set_option maxHeartbeats 400000 in
theorem grained_any (x : Int) (w : World) :
    Calls Tryz.prog 164 #[.int .i64 x] w fun e w' => e = .returned (.bool (decide (0 ≤ x ∧ x % 32 = 0))) ∧ w = w' := by
  go_enter Tryz.func164, Tryz.ntmps164
  go_wp2
  all_goals
    go_ret
    refine ⟨ret_bool ?_, rfl⟩
    rw [Bool.eq_iff_iff]
    simp
    try omega
set_option maxHeartbeats 400000 in
theorem upTo_any (v m : Int) (w : World) :
    Calls Tryz.prog 165 #[.int .i64 v, .int .i64 m] w fun e w' => e = .returned (.bool (decide (0 ≤ v ∧ v ≤ m))) ∧ w = w' := by
  go_enter Tryz.func165, Tryz.ntmps165
  go_wp2
  all_goals
    go_ret
    refine ⟨ret_bool ?_, rfl⟩
    rw [Bool.eq_iff_iff]
    simp
    try omega
set_option maxHeartbeats 1000000 in
theorem sConfigOk_any (s c k d : Int) (w : World) :
    Calls Tryz.prog 71 #[.agg #[.int .i64 s, .int .i64 c, .int .i64 k, .int .i64 d]] w fun e w' => e = .returned (.bool (cfo s c k d)) ∧ Below w.heap.size w w' := by
  have HB := hide ((Below.refl w.heap.size w).alloc (Nat.le_refl _) (.cells #[.int .i64 s, .int .i64 c, .int .i64 k, .int .i64 d] 44))
  go_enter Tryz.func71, Tryz.ntmps71
  go_wp2
  all_goals
    go_ret
    refine ⟨ret_bool ?_, HB.out⟩
    unfold cfo
    rw [Bool.eq_iff_iff]
    simp
    try omega
set_option maxHeartbeats 1000000 in
theorem iConfigOk_any (s c k d : Int) (w : World) :
    Calls Tryz.prog 74 #[.agg #[.int .i64 s, .int .i64 c, .int .i64 k, .int .i64 d]] w fun e w' => e = .returned (.bool (cfo s c k d)) ∧ Below w.heap.size w w' := by
  have HB := hide ((Below.refl w.heap.size w).alloc (Nat.le_refl _) (.cells #[.int .i64 s, .int .i64 c, .int .i64 k, .int .i64 d] 44))
  have HF : ∀ b : Bool, b = cfo s c k d ↔ (b = true ↔ (0 ≤ s ∧ s ≤ 4 ∧ 1 ≤ c ∧ c ≤ 64 ∧ 0 ≤ k ∧ k ≤ 1024 ∧ k % 32 = 0 ∧ 0 ≤ d ∧ d ≤ 100)) := fun b => by unfold cfo; rw [Bool.eq_iff_iff]; simp
  have HF := hide HF
  go_enter Tryz.func74, Tryz.ntmps74
  go_wp2_with (first
    | (go_at_call 164; refine (grained_any _ _).mono ?_; rintro e w1 ⟨rfl, rfl⟩)
    | (go_at_call 165; refine (upTo_any _ _ _).mono ?_; rintro e w1 ⟨rfl, rfl⟩))
  all_goals
    go_ret
    refine ⟨ret_bool ?_, HB.out⟩
    rw [HF.out]
    simp_all
    try omega
set_option maxHeartbeats 1000000 in
theorem toConfig_any (s c k d : Int) (w : World) :
    Calls Tryz.prog 37 #[.agg #[.int .i64 s, .int .i64 c, .int .i64 k, .int .i64 d]] w fun e w' => e = .returned (.agg #[.int .i64 s, .int .i64 c, .int .i64 k, .int .i64 d]) ∧ Below w.heap.size w w' := by
  go_enter Tryz.func37, Tryz.ntmps37
  go_wp2
  refine bodyPost_ret (v := .agg #[.int .i64 s, .int .i64 c, .int .i64 k, .int .i64 d]) (by simp [results, Tryz.results37, go_sem]) rfl ⟨rfl, ?_⟩
  exact ((((Below.refl _ _).alloc (Nat.le_refl _) _).alloc (by simp) _).alloc (by simp; omega) _)
end Go.Proofs.YtngdgogjlpjjpaeGreat
namespace Go.Proofs.YtngdgogjlpjjpaeGreat
open Go.RowKit
set_option linter.unusedVariables false
set_option linter.unusedSimpArgs false
set_option maxRecDepth 100000
structure Vm (nm : ByteArray) (tn : Nat) (tz : List Int) (bn : Nat) (bl : List Bk) (dn : Nat) (bss : Int) (rn : Nat) (rz : List Int) (im : Nat) (ss : List ByteArray) (en : Nat) (es : List Ex) : Prop where
  n : nm.size ≤ 12
  t : tn ≤ 200
  tw : ∀ z ∈ tz, 0 ≤ z ∧ z ≤ 4294967295
  b : bn ≤ 4
  bw : ∀ i, i < bl.length → (bl.getD i zB).2.1 ≤ 64 ∧ ∀ z ∈ (bl.getD i zB).2.2.2, 0 ≤ z ∧ z ≤ 4294967295
  d : dn ≤ 512
  s : 0 ≤ bss ∧ bss ≤ 512
  r : rn ≤ 16
  rw : ∀ i, i < rn → 0 ≤ rz.getD i 0 ∧ rz.getD i 0 ≤ 512
  i : im ≤ 16
  iw : ∀ i, i < im → (ss.getD i zS).size ≤ 25
  e : en ≤ 16
  ew : ∀ i, i < en → (es.getD i zE).1.size ≤ 12 ∧ -1 ≤ (es.getD i zE).2.1 ∧ (es.getD i zE).2.1 ≤ 4 ∧ 0 ≤ (es.getD i zE).2.2 ∧ (es.getD i zE).2.2 ≤ 200
theorem wds_all {zs : List Int} (h : wds zs = true) : ∀ z ∈ zs, 0 ≤ z ∧ z ≤ 4294967295 := fun z hz => by
  unfold wds at h
  rw [List.all_eq_true] at h
  simpa using h z hz
theorem nmo_size {s : ByteArray} (h : nmo s = true) : s.size ≤ 12 := by
  unfold nmo at h
  simp at h
  omega
theorem full_size {s : ByteArray} (h : full s = true) : s.size ≤ 25 := by
  unfold full at h
  simp only [Bool.and_eq_true, decide_eq_true_eq] at h
  obtain ⟨h0, h1, h2⟩ := h
  have a1 := nmo_size h1
  have a2 := nmo_size h2
  have hd := dot_range s
  unfold cutA at a1
  unfold cutB at a2
  simp only [ByteArray.size_extract] at a1 a2
  omega
theorem rng_all {f : Nat → Bool} {n : Nat} (h : (List.range n).all f = true) (i : Nat) (hi : i < n) : f i = true := by
  rw [List.all_eq_true] at h
  exact h i (by simpa using hi)
theorem vm_of_mdo {nm : ByteArray} {tn : Nat} {tz : List Int} {bn : Nat} {bl : List Bk} {dn : Nat} {bss : Int} {rn : Nat} {rz : List Int} {im : Nat} {ss : List ByteArray} {en : Nat} {es : List Ex} (hbl : bl.length = bn) (h : mdo nm tn tz bn bl dn bss rn rz im ss en es = 0) : Vm nm tn tz bn bl dn bss rn rz im ss en es := by
  unfold mdo at h
  by_cases c1 : nmo nm = false
  · rw [if_pos c1] at h; simp at h
  rw [if_neg c1] at h
  by_cases c2 : cdo tn tz bn bl = false
  · rw [if_pos c2] at h; simp at h
  rw [if_neg c2] at h
  by_cases c3 : 512 < dn ∨ bss < 0 ∨ 512 < bss
  · rw [if_pos c3] at h; simp at h
  rw [if_neg c3] at h
  by_cases c4 : rlo rn rz dn = false
  · rw [if_pos c4] at h; simp at h
  rw [if_neg c4] at h
  by_cases c5 : imo im ss = false
  · rw [if_pos c5] at h; simp at h
  rw [if_neg c5] at h
  by_cases c6 : exo tn bn bl en es = false
  · rw [if_pos c6] at h; simp at h
  simp only [Bool.not_eq_false] at c1 c2 c4 c5 c6
  unfold cdo at c2
  unfold rlo at c4
  unfold imo at c5
  unfold exo at c6
  simp only [Bool.and_eq_true, decide_eq_true_eq] at c2 c4 c5 c6
  obtain ⟨⟨t1, t2⟩, t3, t4⟩ := c2
  have hb : ∀ i, i < bl.length → (bl.getD i zB).2.1 ≤ 64 ∧ ∀ z ∈ (bl.getD i zB).2.2.2, 0 ≤ z ∧ z ≤ 4294967295 := fun i hi => by
    rw [List.all_eq_true] at t4
    have hm : bl.getD i zB ∈ bl := by simp [List.getD_eq_getElem?_getD, hi]
    have := t4 _ hm
    unfold bko at this
    simp only [Bool.and_eq_true, decide_eq_true_eq] at this
    exact ⟨this.1.2, wds_all this.2⟩
  refine ⟨nmo_size c1, t1, wds_all t3, t2, hb, by omega, by omega, c4.1, fun i hi => ?_, c5.1, fun i hi => full_size (rng_all c5.2 i hi), c6.1, fun i hi => ?_⟩
  · have := rng_all c4.2 i hi
    unfold rlk at this
    simp only [Bool.and_eq_true, decide_eq_true_eq] at this
    omega
  · have := rng_all c6.2 i hi
    unfold ex1 at this
    simp only [Bool.and_eq_true, decide_eq_true_eq] at this
    obtain ⟨⟨n1, a1, a2⟩, _⟩ := this
    have n2 := nmo_size n1
    have hp : pcn tn bn bl (es.getD i zE).2.1 ≤ 200 ∧ (0 < pcn tn bn bl (es.getD i zE).2.1 → -1 ≤ (es.getD i zE).2.1 ∧ (es.getD i zE).2.1 ≤ 4) := by
      unfold pcn
      split
      · omega
      · split
        · next h1 h2 =>
          have := (hb (es.getD i zE).2.1.toNat (by omega)).1
          omega
        · omega
    have := hp.2 (by omega)
    omega
end Go.Proofs.YtngdgogjlpjjpaeGreat
