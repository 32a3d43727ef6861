import Derived.Test.YtngdgogjlpjjpacK25
import Derived.Test.YtngdgogjlpjjpacK15
import Derived.Deep.RegionHeld3
namespace Go.Proofs.Ytngdgogjlpjjpac
open Go.RowKit
set_option linter.unusedVariables false
set_option linter.unusedSimpArgs false
set_option maxRecDepth 100000

/-- A ROW OF LISTS, EACH A ROW OF ITS OWN: gs are their blocks. -/
def RowB (w : World) (g n : Nat) (gs : List Nat) (bl : List Bk) : Prop :=
  (∃ cur, Blk w g cur 46 ∧ cur.size = n ∧ ∀ i, i < gs.length → cur[i]? = some (.slice (some ⟨gs.getD i 0, 0, none⟩) (bl.getD i zB).2.1 (bl.getD i zB).2.1)) ∧ (∀ i, i < gs.length → RowI w (gs.getD i 0) (bl.getD i zB).2.2.2 ∧ g < gs.getD i 0) ∧ (∀ i j, i < j → j < gs.length → gs.getD i 0 < gs.getD j 0)
theorem RowB.below {w w' : World} {g n : Nat} {gs : List Nat} {bl : List Bk} (h : RowB w g n gs bl) (hb : Below w.heap.size w w') : RowB w' g n gs bl := by
  obtain ⟨⟨cur, h1, h2, h3⟩, h4, h5⟩ := h
  exact ⟨⟨cur, h1.below hb, h2, h3⟩, fun i hi => ⟨(h4 i hi).1.below hb, (h4 i hi).2⟩, h5⟩
theorem RowB.cell {w : World} {g n : Nat} {gs : List Nat} {bl : List Bk} (h : RowB w g n gs bl) (k : Nat) (hk : k < n) : ∃ v, w.cell? ⟨g, k, none⟩ = some v := by
  obtain ⟨⟨cur, h1, h2, h3⟩, h4, h5⟩ := h
  refine ⟨cur[k], ?_⟩
  rw [h1.cell]
  simp [h2, hk]
theorem RowB.frozen {w : World} {g n : Nat} {gs : List Nat} {bl : List Bk} (h : RowB w g n gs bl) (k : Nat) : w.frozen? ⟨g, k, none⟩ = false := by
  obtain ⟨⟨cur, h1, h2, h3⟩, h4, h5⟩ := h
  exact h1.frozen k
theorem getD_snoc_lt (gs : List Nat) (x i : Nat) (h : i < gs.length) : (gs ++ [x]).getD i 0 = gs.getD i 0 := by
  simp [List.getD_eq_getElem?_getD, List.getElem?_append_left h]
theorem getD_snoc (gs : List Nat) (x : Nat) : (gs ++ [x]).getD gs.length 0 = x := by
  simp [List.getD_eq_getElem?_getD]
theorem RowB.push {w : World} {g n x : Nat} {gs : List Nat} {bl : List Bk} (h : RowB w g n gs bl) (hk : gs.length < n) (hr : RowI w x (bl.getD gs.length zB).2.2.2) (hx : g < x) (hi : ∀ i, i < gs.length → gs.getD i 0 < x) :
    RowB (w.setCell ⟨g, gs.length, none⟩ (.slice (some ⟨x, 0, none⟩) (bl.getD gs.length zB).2.1 (bl.getD gs.length zB).2.1)) g n (gs ++ [x]) bl := by
  obtain ⟨⟨cur, h1, h2, h3⟩, h4, h5⟩ := h
  have key : ∀ y zs, RowI w y zs → g ≠ y → RowI (w.setCell ⟨g, gs.length, none⟩ (.slice (some ⟨x, 0, none⟩) (bl.getD gs.length zB).2.1 (bl.getD gs.length zB).2.1)) y zs := fun y zs hy hne => by
    unfold RowI at *
    rw [heap_setCell_other _ _ _ _ (by dsimp only; omega)]
    exact hy
  refine ⟨⟨_, h1.set gs.length _, by simp [h2], fun i hi' => ?_⟩, fun i hi' => ?_, fun i j hij hj => ?_⟩
  · simp only [List.length_append, List.length_cons, List.length_nil] at hi'
    by_cases e : i = gs.length
    · subst e
      rw [getD_snoc]
      simp [h2, hk]
    · rw [getD_snoc_lt _ _ _ (by omega), ← h3 i (by omega)]
      rw [Array.getElem?_setIfInBounds_ne (by omega)]
  · simp only [List.length_append, List.length_cons, List.length_nil] at hi'
    by_cases e : i = gs.length
    · subst e
      rw [getD_snoc]
      exact ⟨key _ _ hr (by omega), hx⟩
    · rw [getD_snoc_lt _ _ _ (by omega)]
      exact ⟨key _ _ (h4 i (by omega)).1 (by have := (h4 i (by omega)).2; omega), (h4 i (by omega)).2⟩
  · simp only [List.length_append, List.length_cons, List.length_nil] at hj
    by_cases e : j = gs.length
    · subst e
      rw [getD_snoc, getD_snoc_lt _ _ _ hij]
      exact hi i hij
    · rw [getD_snoc_lt _ _ _ (by omega), getD_snoc_lt _ _ _ (by omega)]
      exact h5 i j hij (by omega)
/-- the lists as they lie in the rows of their own -/
def reb (gs : List Nat) (bl : List Bk) : List Bk := (List.range bl.length).map fun i => (some ⟨gs.getD i 0, 0, none⟩, (bl.getD i zB).2.1, (bl.getD i zB).2.1, (bl.getD i zB).2.2.2)
theorem reb_len (gs : List Nat) (bl : List Bk) : (reb gs bl).length = bl.length := by simp [reb]
theorem reb_at (gs : List Nat) (bl : List Bk) (i : Nat) (hi : i < bl.length) : (reb gs bl).getD i zB = (some ⟨gs.getD i 0, 0, none⟩, (bl.getD i zB).2.1, (bl.getD i zB).2.1, (bl.getD i zB).2.2.2) := by
  simp [reb, List.getD_eq_getElem?_getD, hi]
theorem RowB.bks {w w0 : World} {g n cap : Nat} {a : Option Addr} {gs : List Nat} {bl : List Bk} (h : RowB w g n gs bl) (hb : BKS w0 a n cap bl) (hg : gs.length = n) : BKS w (some ⟨g, 0, none⟩) n n (reb gs bl) := by
  obtain ⟨b1, b2, b3, b4, b5⟩ := hb
  obtain ⟨⟨cur, h1, h2, h3⟩, h4, h5⟩ := h
  refine ⟨by rw [reb_len, b1], b2, fun _ => ⟨g, 0, rfl, fun i hi => ?_⟩, fun i hi => ?_, Nat.le_refl _⟩
  · rw [reb_at _ _ _ (by omega), Nat.zero_add, h1.cell]
    exact h3 i (by omega)
  · rw [reb_at _ _ _ (by omega)]
    obtain ⟨c1, c2, c3, c4, c5⟩ := b4 i hi
    have hr := (h4 i (by omega)).1
    exact ⟨c1, c2, c3, fun _ => ⟨gs.getD i 0, 0, rfl, fun j hj => by rw [Nat.zero_add]; exact hr.cell j (by rw [c1]; exact hj)⟩, Nat.le_refl _⟩
theorem reb_bko (gs : List Nat) (bl : List Bk) : (reb gs bl).all bko = bl.all bko := by
  have key : ∀ i, i < bl.length → bko ((reb gs bl).getD i zB) = bko (bl.getD i zB) := fun i hi => by rw [reb_at _ _ _ hi]; rfl
  cases h : bl.all bko
  · obtain ⟨x, hx, hb⟩ := List.all_eq_false.1 h
    obtain ⟨i, hi, rfl⟩ := List.getElem_of_mem hx
    exact all_bad _ i (by rw [reb_len]; exact hi) (by rw [key i hi]; simpa [List.getD_eq_getElem?_getD, hi] using hb)
  · refine all_good _ fun j hj => ?_
    rw [reb_len] at hj
    rw [key j hj]
    have := List.all_eq_true.1 h _ (List.getElem_mem hj)
    simpa [List.getD_eq_getElem?_getD, hj] using this
theorem reb_cdo (gs : List Nat) (tn : Nat) (tz : List Int) (bn : Nat) (bl : List Bk) : cdo tn tz bn (reb gs bl) = cdo tn tz bn bl := by unfold cdo; rw [reb_bko]
theorem reb_pcn (gs : List Nat) (tn bn : Nat) (bl : List Bk) (b : Int) (h : bl.length = bn) : pcn tn bn (reb gs bl) b = pcn tn bn bl b := by
  unfold pcn
  split
  · rfl
  · split
    · rename_i h1 h2
      rw [reb_at _ _ _ (by omega)]
    · rfl
theorem reb_exo (gs : List Nat) (tn bn : Nat) (bl : List Bk) (n : Nat) (es : List Ex) (h : bl.length = bn) : exo tn bn (reb gs bl) n es = exo tn bn bl n es := by
  unfold exo ex1
  congr 2
  funext i
  rw [reb_pcn _ _ _ _ _ h]
theorem reb_mdo (gs : List Nat) (nm : ByteArray) (tn : Nat) (tz : List Int) (bn : Nat) (bl : List Bk) (dn : Nat) (bss : Int) (rn : Nat) (rz : List Int) (im : Nat) (ss : List ByteArray) (en : Nat) (es : List Ex) (h : bl.length = bn) :
    mdo nm tn tz bn (reb gs bl) dn bss rn rz im ss en es = mdo nm tn tz bn bl dn bss rn rz im ss en es := by
  unfold mdo
  rw [reb_cdo, reb_exo _ _ _ _ _ _ h]

theorem infoB : (Try.prog.info? 46).map (fun i => (i.zero, i.size, i.bytes)) = some (some (.slice none 0 0), 1, 24) := by kernel_rfl
theorem rowB_of_made {w : World} {base g n : Nat} {bl : List Bk} (h : w.ownsRow base 46 1 (.slice (some ⟨g, 0, none⟩) n n) n (madeCells (Value.cells (.slice none 0 0)) (n * 1)).toList) : RowB w g n [] bl := by
  obtain ⟨hl, h | ⟨g', cap, cur, hv, hb, hh, h1, h2, h3, h4⟩⟩ := h
  · simp at h
  · simp at hv
    obtain ⟨rfl, rfl⟩ := hv
    exact ⟨⟨cur, hh, by simpa using h3, fun i hi => by simp at hi⟩, fun i hi => by simp at hi, fun i j _ hj => by simp at hj⟩

set_option maxHeartbeats 2000000 in
theorem toIntSS_any (a : Option Addr) (n cap : Nat) (bl : List Bk) (w : World) (h : BKS w a n cap bl) (hn : n ≤ 1048576) (hs : ∀ i, i < n → (bl.getD i zB).2.1 ≤ 1048576) :
    Calls Try.prog 73 #[.slice a n cap] w fun e w' => e = .returned (.slice (some ⟨w.heap.size, 0, none⟩) n n) ∧ (∃ gs, gs.length = n ∧ RowB w' w.heap.size n gs bl) ∧ Below w.heap.size w w' := by
  obtain ⟨i0, hi, hz0, hz1, hz2⟩ := info_parts infoB
  have hl := h.1
  go_enter Try.func73, Try.ntmps73
  go_wp2_with (at_make; refine wpList_make_full _ rfl _ _ 47 rfl w.heap.size 46 i0 (.slice none 0 0) 1 Try.underlying47 hi hz0 hz1 .i64 .i64 _ _ n rfl rfl rfl rfl (by rw [hz2]; omega) (by unfold maxLen; omega) (Nat.le_refl _) ?_; intro w1 hown hgr)
  have hrow : RowB w1 w.heap.size n [] bl := rowB_of_made hown
  have hbel := below_grown hgr
  clear hown hgr hi hz0 hz1 hz2
  go_loopw [4] (fun i wr => ∃ k : Nat, k ≤ n ∧ i = .int .i64 k ∧ (∃ gs, gs.length = k ∧ RowB wr w.heap.size n gs bl) ∧ Below w.heap.size w wr) (fun i _ => n - (intOf i).toNat)
  case atStart => exact ⟨0, Nat.zero_le _, rfl, ⟨[], rfl, hrow⟩, hbel⟩
  case round =>
    obtain ⟨k, hk, rfl, ⟨gs, hgs, hR⟩, hB⟩ := hrel
    clear hrow hbel
    by_cases hlt : k < n
    · have hlt' : (k : Int) < (n : Int) := by omega
      obtain ⟨b, off, rfl⟩ := h.addr (by omega)
      have hb' := h.below hB
      have hck := hb'.at k hlt
      have hik := hb'.2.2.2.1 k hlt
      have hsk := hs k hlt
      have HT := hide (fun w h => toIntS_any (bl.getD k zB).1 (bl.getD k zB).2.1 (bl.getD k zB).2.2.1 (bl.getD k zB).2.2.2 w h hsk)
      have HP := hide (fun (W : World) (hW : Below wr.heap.size wr W) (hr : RowI W wr.heap.size (bl.getD k zB).2.2.2) => by
        have hp := RowB.push (hR.below hW) (by omega) (by rw [hgs]; exact hr) (by obtain ⟨⟨cur, h1, _⟩, _⟩ := hR; exact h1.lt) (fun i hi => (hR.2.1 i hi).1.lt)
        rw [hgs] at hp
        exact hp)
      have HF := hide (fun (W : World) (hW : Below wr.heap.size wr W) => And.intro ((hR.below hW).cell k hlt) ((hR.below hW).frozen k))
      clear hb' hsk
      generalize (bl.getD k zB).1 = xa at *
      generalize (bl.getD k zB).2.1 = xn at *
      generalize (bl.getD k zB).2.2.1 = xc at *
      generalize (bl.getD k zB).2.2.2 = xz at *
      go_wp2_with fail
      refine (HT.out _ hik).mono ?_
      rintro e w2 ⟨rfl, hr2, hb2⟩
      obtain ⟨⟨v0, hv0⟩, hfz⟩ := HF.out _ hb2
      have HS := hide (HP.out _ hb2 hr2)
      have HB2 := hide ((hB.trans (hb2.mono hB.size)).setCell (p := ⟨w.heap.size, k, none⟩) (Nat.le_refl _) (.slice (some ⟨wr.heap.size, 0, none⟩) xn xn))
      clear HP HF hR hik HT hck hr2
      go_wp2
      go_roundw
      case rel => exact ⟨k + 1, by omega, by go_num, ⟨gs ++ [wr.heap.size], by simp [hgs], HS.out⟩, HB2.out⟩
      case measure => simp [intOf]; omega
    · have e : Hid (k = n) := by show k = n; omega
      go_wp2
      go_ret
      exact ⟨rfl, ⟨gs, by rw [hgs, e.out], hR⟩, hB⟩

set_option maxHeartbeats 1000000 in
theorem eqIntSS_same (a a' : Option Addr) (n cap cap' : Nat) (bl bl' : List Bk) (w : World) (h : BKS w a n cap bl) (h' : BKS w a' n cap' bl') (hz : ∀ i, i < n → (bl'.getD i zB).2.1 = (bl.getD i zB).2.1 ∧ (bl'.getD i zB).2.2.2 = (bl.getD i zB).2.2.2) :
    Calls Try.prog 83 #[.slice a n cap, .slice a' n cap'] w fun e w' => e = .returned (.bool true) ∧ Below w.heap.size w w' := by
  have hmx := h.2.1
  unfold maxLen at hmx
  have hne : ((n : Int) != (n : Int)) = false := by simp
  go_enter Try.func83, Try.ntmps83
  go_wp2
  go_loopw [5] (fun i wr => ∃ k : Nat, k ≤ n ∧ i = .int .i64 k ∧ Below w.heap.size w wr) (fun i _ => n - (intOf i).toNat)
  case atStart => exact ⟨0, Nat.zero_le _, rfl, Below.refl _ _⟩
  case round =>
    obtain ⟨k, hk, rfl, hB⟩ := hrel
    by_cases hlt : k < n
    · have hlt' : (k : Int) < (n : Int) := by omega
      obtain ⟨b, off, rfl⟩ := h.addr (by omega)
      obtain ⟨b', off', rfl⟩ := h'.addr (by omega)
      have q1 := (h.below hB).at k hlt
      have p1 := (h'.below hB).at k hlt
      have i1 := (h.below hB).2.2.2.1 k hlt
      have i2 := (h'.below hB).2.2.2.1 k hlt
      obtain ⟨z1, z2⟩ := hz k hlt
      rw [z1, z2] at i2
      rw [z1] at p1
      clear z1 z2
      generalize (bl.getD k zB).1 = xa at *
      generalize (bl.getD k zB).2.1 = xn at *
      generalize (bl.getD k zB).2.2.1 = xc at *
      generalize (bl.getD k zB).2.2.2 = xz at *
      generalize (bl'.getD k zB).1 = ya at *
      generalize (bl'.getD k zB).2.2.1 = yc at *
      have HE := hide (fun w h k => eqIntS_any xa ya xn xc xn yc xz xz w h k)
      rw [decide_eq_true rfl] at HE
      go_wp2
      go_region_held3 (fun w' => w'.cell? ⟨b, off + k, none⟩ = some (.slice xa xn xc) ∧ w'.cell? ⟨b', off' + k, none⟩ = some (.slice ya xn yc)) (go_keep)
        (first
          | (go_at_call 82; refine (HE.out _ (by exact i1) (by exact i2)).mono ?_; rintro e w1 ⟨rfl, hb1⟩; replace hb1 := undrew hb1; obtain ⟨hc1, hf1⟩ := bcell hb1; have hlb := World.block_lt_of_cell? _ _ q1; have hlb' := World.block_lt_of_cell? _ _ p1))
      clear hc1 hf1 q1 p1
      go_wp2
      go_roundw
      case rel => exact ⟨k + 1, by omega, by go_num, hB.trans (hb1.mono hB.size)⟩
      case measure => simp [intOf]; omega
    · go_wp2
      go_ret
      exact ⟨rfl, hB⟩
end Go.Proofs.Ytngdgogjlpjjpac
