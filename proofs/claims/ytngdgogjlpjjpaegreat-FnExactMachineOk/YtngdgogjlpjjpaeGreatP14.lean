import Derived.Test.YtngdgogjlpjjpaeGreatP00
import Derived.Test.YtngdgogjlpjjpaeGreatP01
import Derived.Test.YtngdgogjlpjjpaeGreatP03
import Derived.Test.YtngdgogjlpjjpaeGreatP04
import Derived.Test.YtngdgogjlpjjpaeGreatP11
import Derived.Test.YtngdgogjlpjjpaeGreatP12
namespace Go.Proofs.YtngdgogjlpjjpaeGreat
open Go.RowKit
set_option linter.unusedVariables false
set_option linter.unusedSimpArgs false
set_option maxRecDepth 100000
structure LayR (L : Lay) : Prop where
  p : ∀ x ∈ L.places, ∀ z ∈ x.banks, wfi z
  s : ∀ z ∈ L.slots, wfi z
  n : L.places.length ≤ 1048576 ∧ L.targets.length ≤ 1048576 ∧ ∀ x ∈ L.targets, x.length ≤ 1048576
def St (f : Nat → TB) (n j : Nat) : Prop := ∃ i, i < n ∧ (svT (f i)).ownBlock = some j
structure Rt (w : World) (base : Nat) (a : Option Addr) (n : Nat) (f : Nat → TB) (X : Nat → List Tg) : Prop where
  head : n ≠ 0 → ∃ g cs, a = some ⟨g, 0, none⟩ ∧ ¬ St f n g ∧ Blk w g cs 189 ∧ ∀ i, i < n → cs[i]? = some (svT (f i))
  rows : ∀ i, i < n → OG 71 3 clG w base (svT (f i)) (X i)
  apart : ∀ i j, i < n → j < n → i ≠ j → ∀ k, (svT (f i)).ownBlock = some k → (svT (f j)).ownBlock ≠ some k
def Sr (f : Nat → Option Addr × Nat × Nat) (n j : Nat) : Prop := ∃ i, i < n ∧ (Value.slice (f i).1 (f i).2.1 (f i).2.2).ownBlock = some j
abbrev Rw3 := Option Addr × Nat × Nat
def svR (r : Rw3) : Value := .slice r.1 r.2.1 r.2.2
def Ar4 (cs : Array Value) (o : Nat) (v : Int × Int × Int) (r : Rw3) : Prop := cs[o]? = some (.int .i64 v.1) ∧ cs[o + 1]? = some (svR r) ∧ cs[o + 2]? = some (.int .i64 v.2.1) ∧ cs[o + 3]? = some (.int .i64 v.2.2)
theorem ar_other {cs : Array Value} {i j : Nat} {u v : Value} (h : cs[j]? = some u) (hn : i ≠ j) : (cs.setIfInBounds i v)[j]? = some u := by
  rw [Array.getElem?_setIfInBounds, if_neg hn]; exact h
structure Rp (w : World) (base : Nat) (a : Option Addr) (n : Nat) (f : Nat → Rw3) (V : Nat → Int × Int × Int) (X : Nat → List Int) : Prop where
  head : n ≠ 0 → ∃ g cs, a = some ⟨g, 0, none⟩ ∧ ¬ Sr f n g ∧ Blk w g cs 138 ∧ ∀ i, i < n → Ar4 cs (i * 4) (V i) (f i)
  rows : ∀ i, i < n → OI w base (svR (f i)) (X i)
  apart : ∀ i j, i < n → j < n → i ≠ j → ∀ k, (svR (f i)).ownBlock = some k → (svR (f j)).ownBlock ≠ some k
  hb : n ≠ 0 → ∀ g, a = some ⟨g, 0, none⟩ → base ≤ g
def Sp (a : Option Addr) (f : Nat → Rw3) (n j : Nat) : Prop := Sr f n j ∨ (n ≠ 0 ∧ ∃ g, a = some ⟨g, 0, none⟩ ∧ j = g)
theorem flat_len {α:Type}(f:α → List Value)(sz:Nat)(hf:∀ x,(f x).length=sz): ∀ xs : List α, (xs.flatMap f).length = xs.length * sz
  | [] => by simp
  | x :: xs => by simp only [List.flatMap_cons, List.length_append, List.length_cons, flat_len f sz hf xs, hf x]; rw [Nat.add_mul]; omega
theorem flat_get {α:Type}(f:α → List Value)(sz:Nat)(hf:∀ x,(f x).length=sz)(z:α): ∀ (xs : List α) (i j : Nat), i < xs.length → j < sz → (xs.flatMap f)[i * sz + j]? = (f (xs.getD i z))[j]?
  | [], i, j, h, _ => by simp at h
  | x :: xs, 0, j, h, hj => by simp [List.getElem?_append_left (show j < (f x).length by rw [hf]; exact hj)]
  | x :: xs, i + 1, j, h, hj => by
    have ih:=flat_get f sz hf z xs i j (by simpa using h) hj
    have e : (i + 1) * sz + j = (f x).length + (i * sz + j) := by rw [hf, Nat.add_mul]; omega
    rw [List.flatMap_cons, e, List.getElem?_append_right (by omega), Nat.add_sub_cancel_left, ih]
    simp
theorem take_flat {α:Type}(f:α → List Value)(sz:Nat)(hf:∀ x,(f x).length=sz)(z:α){cs : Array Value} {xs : List α} (h : cs.size = xs.length * sz) (hs : 0 < sz) (hc : ∀ i, i < xs.length → ∀ j, j < sz → cs[i * sz + j]? = (f (xs.getD i z))[j]?) : cs.toList.take (xs.length * sz) = xs.flatMap f := by
  apply List.ext_getElem?
  intro k
  by_cases hk : k < xs.length * sz
  · have e : k = k / sz * sz + k % sz := by rw [Nat.mul_comm]; exact (Nat.div_add_mod k sz).symm
    have h1 : k / sz < xs.length := by rw [Nat.div_lt_iff_lt_mul hs]; exact hk
    have h2 : k % sz < sz := Nat.mod_lt _ hs
    rw [List.getElem?_take, if_pos hk, Array.getElem?_toList]
    rw [e, hc _ h1 _ h2, flat_get f sz hf z xs _ _ h1 h2]
  · rw [List.getElem?_eq_none (by simp; omega), List.getElem?_eq_none (by rw [flat_len f sz hf]; omega)]
def RowF {α : Type} (t : TypeId) (sz : Nat) (f : α → List Value) (w : World) (g n : Nat) (F : Nat → α) : Prop :=
  ∃ cs, Blk w g cs t ∧ cs.size = n * sz ∧ ∀ i, i < n → ∀ j, j < sz → cs[i * sz + j]? = (f (F i))[j]?
section
variable {α : Type} {t : TypeId} {sz : Nat} {f : α → List Value} {w w' : World} {g n : Nat} {F : Nat → α}
theorem RowF.below (h : RowF t sz f w g n F) (hb : Below w.heap.size w w') : RowF t sz f w' g n F := by
  obtain ⟨cs, h1, h2, h3⟩ := h
  exact ⟨cs, h1.below hb, h2, h3⟩
theorem RowF.blk (h : RowF t sz f w g n F) : ∃ cs, Blk w g cs t := by obtain ⟨cs, h1, _⟩ := h; exact ⟨cs, h1⟩
theorem RowF.cell (h : RowF t sz f w g n F) (hf : ∀ x, (f x).length = sz) (i j : Nat) (hi : i < n) (hj : j < sz) (v : Value) (hv : (f (F i))[j]? = some v) : w.cell? ⟨g, i * sz + j, none⟩ = some v := by
  obtain ⟨cs, h1, h2, h3⟩ := h
  rw [h1.cell, h3 i hi j hj, hv]
theorem RowF.og (h : RowF t sz f w g n F) (hf : ∀ x, (f x).length = sz) (hs : 0 < sz) {base : Nat} (hg : base ≤ g) (hn : n ≤ maxLen) {xs : List α} (hl : xs.length = n) (z : α) (he : ∀ i, i < n → F i = xs.getD i z) : OG t sz f w base (.slice (some ⟨g, 0, none⟩) n n) xs := by
  obtain ⟨cs, h1, h2, h3⟩ := h
  subst hl
  refine ⟨flat_len f sz hf xs, .inr ⟨g, xs.length, cs, rfl, hg, h1, Nat.le_refl _, hn, h2, take_flat f sz hf z h2 hs (fun i hi j hj => ?_)⟩⟩
  rw [h3 i hi j hj, he i hi]
theorem rowF_made (z0 : α) (v : Value) (hv : v.cells.toList = f z0) (hs : sz = v.cells.size) {base : Nat} (h : w.ownsRow base t sz (.slice (some ⟨g, 0, none⟩) n n) n (madeCells v.cells (n * sz)).toList) : RowF t sz f w g n (fun _ => z0) := by
  obtain ⟨hl, h | ⟨g', cap, cur, hv', hb, hh, h1, h2, h3, h4⟩⟩ := h
  · simp at h
  · simp at hv'
    obtain ⟨rfl, rfl⟩ := hv'
    have e : cur.toList = (madeCells v.cells (n * sz)).toList := by
      rw [← h4, List.take_of_length_le (by simp [h3])]
    have e2 : cur = madeCells v.cells (n * sz) := Array.toList_inj.1 e
    refine ⟨cur, hh, h3, fun i hi j hj => ?_⟩
    have hlt : i * sz + j < n * sz := by
      have : (i + 1) * sz ≤ n * sz := Nat.mul_le_mul_right _ (by omega)
      rw [Nat.add_mul] at this
      omega
    have hm : (i * sz + j) % v.cells.size = j := by rw [← hs, Nat.mul_comm, Nat.mul_add_mod]; exact Nat.mod_eq_of_lt hj
    rw [e2, ← hv]
    simp [madeCells, hlt, hm, show j < v.cells.size by omega]
theorem ar_at {cs : Array Value} {i : Nat} {v : Value} (h : i < cs.size) : (cs.setIfInBounds i v)[i]? = some v := by simp [h]
theorem RowF.set4 (h : RowF t 4 f w g n F) (m : Nat) (hm : m < n) (x : α) (a b c d : Value) (hx : f x = [a, b, c, d]) : RowF t 4 f ((((w.setCell ⟨g, m * 4, none⟩ a).setCell ⟨g, m * 4 + 1, none⟩ b).setCell ⟨g, m * 4 + 2, none⟩ c).setCell ⟨g, m * 4 + 3, none⟩ d) g n (fun i => if i = m then x else F i) := by
  obtain ⟨cs, h1, h2, h3⟩ := h
  refine ⟨_, (((h1.set (m * 4) a).set (m * 4 + 1) b).set (m * 4 + 2) c).set (m * 4 + 3) d, by simp [h2], fun i hi j hj => ?_⟩
  by_cases e : i = m
  · subst e
    simp only [if_true, hx]
    match j, hj with
    | 0, _ => exact ar_other (ar_other (ar_other (ar_at (by rw [h2]; omega)) (by omega)) (by omega)) (by omega)
    | 1, _ => exact ar_other (ar_other (ar_at (by simp [h2]; omega)) (by omega)) (by omega)
    | 2, _ => exact ar_other (ar_at (by simp [h2]; omega)) (by omega)
    | 3, _ => exact ar_at (by simp [h2]; omega)
  · simp only [e, if_false]
    rw [Array.getElem?_setIfInBounds_ne (by omega), Array.getElem?_setIfInBounds_ne (by omega), Array.getElem?_setIfInBounds_ne (by omega), Array.getElem?_setIfInBounds_ne (by omega)]
    exact h3 i hi j hj
end
structure HR {α β : Type} (th : TypeId) (hs : Nat) (hc : α → List Value) (tr : TypeId) (rs : Nat) (rc : β → List Value) (sv : α → Value) (ct : α → List β) (w : World) (base g n : Nat) (f : Nat → α) : Prop where
  head : RowF th hs hc w g n f
  rows : ∀ i, i < n → OG tr rs rc w base (sv (f i)) (ct (f i))
  apart : ∀ i j, i < n → j < n → i ≠ j → ∀ k, (sv (f i)).ownBlock = some k → (sv (f j)).ownBlock ≠ some k
section
variable {α β : Type} {th : TypeId} {hs : Nat} {hc : α → List Value} {tr : TypeId} {rs : Nat} {rc : β → List Value} {sv : α → Value} {ct : α → List β} {w w' : World} {base g n : Nat} {f : Nat → α}
theorem HR.or (h : HR th hs hc tr rs rc sv ct w base g n f) (hf : ∀ x, (hc x).length = hs) (h0 : 0 < hs) (hg : base ≤ g) (hn : n ≤ maxLen) (z : α) {xs : List α} (hl : xs.length = n) (he : ∀ i, i < n → f i = xs.getD i z) : OR th hs hc tr rs rc sv ct w base base (.slice (some ⟨g, 0, none⟩) n n) xs := by
  refine ⟨h.head.og hf h0 hg hn hl z he, fun x hx => ?_, ?_⟩
  · obtain ⟨i, hi, rfl⟩ := List.getElem_of_mem hx
    have := h.rows i (by omega)
    rw [he i (by omega)] at this
    simpa [List.getD_eq_getElem?_getD, hi] using this
  · rw [List.pairwise_iff_getElem]
    intro i j hi hj hij k hk
    have := h.apart i j (by omega) (by omega) (by omega) k
    rw [he i (by omega), he j (by omega)] at this
    simp only [List.getD_eq_getElem?_getD, List.getElem?_eq_getElem hi, List.getElem?_eq_getElem hj, Option.getD_some] at this
    exact this hk
end
structure Y3 (W : World) (base : Nat) (a0 : Option Addr) (n : Nat) (f : Nat → Rw3) (V : Nat → Int × Int × Int) (X : Nat → List Int) (v2 : Value) (Z : List Int) (a5 : Option Addr) (tn : Nat) (F : Nat → TB) (G : Nat → List Tg) : Prop where
  p : Rp W base a0 n f V X
  s : OI W base v2 Z
  t : Rt W base a5 tn F G
  sp : ∀ k, v2.ownBlock = some k → ¬ Sr f n k
section
variable {W W' : World} {base : Nat} {a0 : Option Addr} {n : Nat} {f : Nat → Rw3} {V V' : Nat → Int × Int × Int} {X X' : Nat → List Int} {v2 : Value} {Z Z' : List Int} {a5 : Option Addr} {tn : Nat} {F : Nat → TB} {G G' : Nat → List Tg}
theorem Y3.kr (h : Y3 W base a0 n f V X v2 Z a5 tn F G) {i : Nat} (hi : i < n) {j : Nat} (hj : (svR (f i)).ownBlock = some j) : ∃ cs, Blk W j cs 3 := own_kind (h.p.rows i hi).1 hj
theorem Y3.kp (h : Y3 W base a0 n f V X v2 Z a5 tn F G) {j : Nat} (hj : Sp a0 f n j) : (∃ cs, Blk W j cs 3) ∨ ∃ cs, Blk W j cs 138 := by
  rcases hj with ⟨i, hi, e⟩ | ⟨hn, g, ha, rfl⟩
  · exact .inl (h.kr hi e)
  · obtain ⟨g', cs, ha', _, hb, _⟩ := h.p.head hn
    rw [ha'] at ha
    simp at ha
    subst ha
    exact .inr ⟨cs, hb⟩
end
structure LayB (L : Lay) : Prop where
  r : LayR L
  p : L.places.length ≤ 4 ∧ ∀ x ∈ L.places, x.banks.length ≤ 4
  s : L.slots.length ≤ 4
  t : L.targets.length ≤ 4 ∧ ∀ x ∈ L.targets, x.length ≤ 16
theorem layB_zero : LayB L0 := ⟨⟨by simp [L0], by simp [L0], by simp [L0]⟩, by simp [L0], by simp [L0], by simp [L0]⟩
theorem lkc_facts {ps : List PMod} {s w k d : Int} (h : lkc ps s w k d = 0) : cfo s w k d = true ∧ 1 ≤ ps.length ∧ ps.length ≤ 4 ∧ vlds ps ∧ imps ps := by
  unfold lkc at h
  split at h
  · rename_i h1; exact absurd h h1
  rename_i h1
  split at h
  · exact absurd h (by decide)
  rename_i h2
  simp at h1
  unfold snd4 at h1
  split at h1
  · exact absurd h1 (by decide)
  rename_i h3
  split at h1
  · exact absurd h1 (by decide)
  rename_i h4
  split at h1
  · exact absurd h1 (by decide)
  rename_i h5
  exact ⟨by simpa using h3, by omega, by omega, Classical.not_not.1 h5, Classical.not_not.1 h2⟩
theorem layB_lay {ps : List PMod} {s w k d : Int} (h : lkc ps s w k d = 0) : LayB (lay ps s w k) := by
  obtain ⟨hc, h1, h2, hv, _⟩ := lkc_facts h
  unfold cfo at hc
  simp at hc
  obtain ⟨c1, c2, c3, c4, c5, c6, _⟩ := hc
  have hmem : ∀ i, i < ps.length → mdoP (ps.getD i zP) = 0 := hv
  refine ⟨⟨fun x hx z hz => ?_, fun z hz => ?_, ?_, ?_, fun x hx => ?_⟩, ⟨?_, fun x hx => ?_⟩, ?_, ⟨?_, fun x hx => ?_⟩⟩
  · simp only [lay, List.mem_map, List.mem_range] at hx
    obtain ⟨i, hi, rfl⟩ := hx
    simp only [plc, List.mem_map, List.mem_range] at hz
    obtain ⟨q, hq, rfl⟩ := hz
    have a1 := Fl_range hv i (by omega)
    have a2 := fsum_range (hmem i hi) q (by omega)
    have a3 := vld_en (hmem i hi)
    have a4 := rnd_range (x := 4 * ((ps.getD i zP).tz.length : Int)) (by omega)
    have a5 : tsz (ps.getD i zP) = rnd (4 * ((ps.getD i zP).tz.length : Int)) := rfl
    rw [a5]
    unfold wfi
    omega
  · simp only [lay, List.mem_map, List.mem_range] at hz
    obtain ⟨i, hi, rfl⟩ := hz
    have a1 := Ra_range hv ps.length (Nat.le_refl _)
    have a4 := rnd_range (x := 4 * w) (by omega)
    have a5 : (0 : Int) ≤ (i : Int) * rnd (4 * w) := Int.mul_nonneg (by omega) (by omega)
    have a6 : (i : Int) * rnd (4 * w) ≤ 4 * 287 := Int.mul_le_mul (by omega) (by omega) (by omega) (by omega)
    unfold slt wfi
    omega
  · simp [lay]; omega
  · simp [lay]; omega
  · simp only [lay, List.mem_map, List.mem_range] at hx
    obtain ⟨i, hi, rfl⟩ := hx
    have a3 := vld_en (hmem i hi)
    simp only [tgs, List.length_map, List.length_range]; omega
  · simp [lay]; omega
  · simp only [lay, List.mem_map, List.mem_range] at hx
    obtain ⟨i, hi, rfl⟩ := hx
    have a3 := vld_en (hmem i hi)
    simp only [plc, List.length_map, List.length_range]; omega
  · simp [lay]; omega
  · simp [lay]; omega
  · simp only [lay, List.mem_map, List.mem_range] at hx
    obtain ⟨i, hi, rfl⟩ := hx
    have a3 := vld_en (hmem i hi)
    simp only [tgs, List.length_map, List.length_range]; omega
theorem layB_lk (ps : List PMod) (s w k d : Int) : LayB (lkL ps s w k d) := by
  unfold lkL
  by_cases h : lkc ps s w k d = 0
  · rw [if_pos h]; exact layB_lay h
  · rw [if_neg h]; exact layB_zero
def TgS (w : World) (a : Option Addr) (n cap : Nat) (zs : List Tg) : Prop :=
  zs.length = n ∧ n ≤ maxLen ∧ (n ≠ 0 → ∃ b off, a = some ⟨b, off, none⟩ ∧ ∀ i, i < n → w.cell? ⟨b, off + i * 3, none⟩ = some (.int .i64 (zs.getD i zT).1) ∧ w.cell? ⟨b, off + i * 3 + 1, none⟩ = some (.int .i64 (zs.getD i zT).2.1) ∧ w.cell? ⟨b, off + i * 3 + 2, none⟩ = some (.int .i64 (zs.getD i zT).2.2)) ∧ n ≤ cap
theorem cell_below {w w' : World} (hb : Below w.heap.size w w') {b o : Nat} {v : Value} (h : w.cell? ⟨b, o, none⟩ = some v) : w'.cell? ⟨b, o, none⟩ = some v := (hb.cell (World.block_lt_of_cell? w _ h)).trans h
theorem TgS.below {w w' : World} {a : Option Addr} {n cap : Nat} {zs : List Tg} (h : TgS w a n cap zs) (hb : Below w.heap.size w w') : TgS w' a n cap zs := by
  obtain ⟨h1, h2, h3, h4⟩ := h
  refine ⟨h1, h2, fun hn => ?_, h4⟩
  obtain ⟨b, off, e, hc⟩ := h3 hn
  exact ⟨b, off, e, fun i hi => ⟨cell_below hb (hc i hi).1, cell_below hb (hc i hi).2.1, cell_below hb (hc i hi).2.2⟩⟩
theorem TgS.at {w : World} {a : Option Addr} {n cap : Nat} {zs : List Tg} (h : TgS w a n cap zs) (i : Nat) (hi : i < n) : ∃ b off, a = some ⟨b, off, none⟩ ∧ w.cell? ⟨b, off + i * 3, none⟩ = some (.int .i64 (zs.getD i zT).1) ∧ w.cell? ⟨b, off + i * 3 + 1, none⟩ = some (.int .i64 (zs.getD i zT).2.1) ∧ w.cell? ⟨b, off + i * 3 + 2, none⟩ = some (.int .i64 (zs.getD i zT).2.2) := by
  obtain ⟨b, off, e, hc⟩ := h.2.2.1 (by omega)
  exact ⟨b, off, e, hc i hi⟩
def TsS (w : World) (a : Option Addr) (n cap : Nat) (ts : List TB) : Prop :=
  ts.length = n ∧ n ≤ maxLen ∧ (n ≠ 0 → ∃ b off, a = some ⟨b, off, none⟩ ∧ ∀ i, i < n → w.cell? ⟨b, off + i, none⟩ = some (svT (ts.getD i zTB))) ∧ (∀ i, i < n → TgS w (ts.getD i zTB).2.1 (ts.getD i zTB).1.length (ts.getD i zTB).2.2 (ts.getD i zTB).1) ∧ n ≤ cap
theorem TsS.below {w w' : World} {a : Option Addr} {n cap : Nat} {ts : List TB} (h : TsS w a n cap ts) (hb : Below w.heap.size w w') : TsS w' a n cap ts := by
  obtain ⟨h1, h2, h3, h4, h5⟩ := h
  refine ⟨h1, h2, fun hn => ?_, fun i hi => (h4 i hi).below hb, h5⟩
  obtain ⟨b, off, e, hc⟩ := h3 hn
  exact ⟨b, off, e, fun i hi => cell_below hb (hc i hi)⟩
theorem TsS.at {w : World} {a : Option Addr} {n cap : Nat} {ts : List TB} (h : TsS w a n cap ts) (i : Nat) (hi : i < n) : ∃ b off, a = some ⟨b, off, none⟩ ∧ w.cell? ⟨b, off + i, none⟩ = some (svT (ts.getD i zTB)) := by
  obtain ⟨b, off, e, hc⟩ := h.2.2.1 (by omega)
  exact ⟨b, off, e, hc i hi⟩
def PlS (w : World) (a : Option Addr) (n cap : Nat) (xs : List PB) : Prop :=
  xs.length = n ∧ n ≤ maxLen ∧ (n ≠ 0 → ∃ b off, a = some ⟨b, off, none⟩ ∧ ∀ i, i < n → w.cell? ⟨b, off + i * 4, none⟩ = some (.int .i64 (xs.getD i zPB).1.text) ∧ w.cell? ⟨b, off + i * 4 + 1, none⟩ = some (svP (xs.getD i zPB)) ∧ w.cell? ⟨b, off + i * 4 + 2, none⟩ = some (.int .i64 (xs.getD i zPB).1.data) ∧ w.cell? ⟨b, off + i * 4 + 3, none⟩ = some (.int .i64 (xs.getD i zPB).1.size)) ∧ (∀ i, i < n → IS w (xs.getD i zPB).2.1 (xs.getD i zPB).1.banks.length (xs.getD i zPB).2.2 (xs.getD i zPB).1.banks) ∧ n ≤ cap
theorem PlS.below {w w' : World} {a : Option Addr} {n cap : Nat} {xs : List PB} (h : PlS w a n cap xs) (hb : Below w.heap.size w w') : PlS w' a n cap xs := by
  obtain ⟨h1, h2, h3, h4, h5⟩ := h
  refine ⟨h1, h2, fun hn => ?_, fun i hi => (h4 i hi).below hb, h5⟩
  obtain ⟨b, off, e, hc⟩ := h3 hn
  exact ⟨b, off, e, fun i hi => ⟨cell_below hb (hc i hi).1, cell_below hb (hc i hi).2.1, cell_below hb (hc i hi).2.2.1, cell_below hb (hc i hi).2.2.2⟩⟩
theorem PlS.at {w : World} {a : Option Addr} {n cap : Nat} {xs : List PB} (h : PlS w a n cap xs) (i : Nat) (hi : i < n) : ∃ b off, a = some ⟨b, off, none⟩ ∧ w.cell? ⟨b, off + i * 4, none⟩ = some (.int .i64 (xs.getD i zPB).1.text) ∧ w.cell? ⟨b, off + i * 4 + 1, none⟩ = some (svP (xs.getD i zPB)) ∧ w.cell? ⟨b, off + i * 4 + 2, none⟩ = some (.int .i64 (xs.getD i zPB).1.data) ∧ w.cell? ⟨b, off + i * 4 + 3, none⟩ = some (.int .i64 (xs.getD i zPB).1.size) := by
  obtain ⟨b, off, e, hc⟩ := h.2.2.1 (by omega)
  exact ⟨b, off, e, hc i hi⟩
structure LyT (w : World) (L : Lay) (a0 : Option Addr) (c0 : Nat) (xs : List PB) (a2 : Option Addr) (c2 : Nat) (a5 : Option Addr) (c5 : Nat) (ts : List TB) : Prop where
  p : PlS w a0 xs.length c0 xs
  ps : xs.map (fun x => x.1) = L.places
  s : IS w a2 L.slots.length c2 L.slots
  t : TsS w a5 ts.length c5 ts
  tt : ts.map (fun x => x.1) = L.targets
  v : wfi L.stack ∧ wfi L.flash ∧ wfi L.ram
theorem LyT.below {w w' : World} {L : Lay} {a0 : Option Addr} {c0 : Nat} {xs : List PB} {a2 : Option Addr} {c2 : Nat} {a5 : Option Addr} {c5 : Nat} {ts : List TB} (h : LyT w L a0 c0 xs a2 c2 a5 c5 ts) (hb : Below w.heap.size w w') : LyT w' L a0 c0 xs a2 c2 a5 c5 ts := ⟨h.p.below hb, h.ps, h.s.below hb, h.t.below hb, h.tt, h.v⟩
abbrev SlT := Bool × Int × Int × Int
abbrev FrT := Int × Int × Int × Int
def zSl : SlT := (false, 0, 0, 0)
def zFr : FrT := (0, 0, 0, 0)
def clSl (x : SlT) : List Value := [.bool x.1, .int .i64 x.2.1, .int .i64 x.2.2.1, .int .i64 x.2.2.2]
def clFr (x : FrT) : List Value := [.int .i64 x.1, .int .i64 x.2.1, .int .i64 x.2.2.1, .int .i64 x.2.2.2]
theorem clSl_len : ∀ x : SlT, (clSl x).length = 4 := fun x => rfl
theorem clFr_len : ∀ x : FrT, (clFr x).length = 4 := fun x => rfl
def QS {α : Type} (f : α → List Value) (z : α) (w : World) (a : Option Addr) (n cap : Nat) (xs : List α) : Prop :=
  xs.length = n ∧ n ≤ maxLen ∧ (n ≠ 0 → ∃ b off, a = some ⟨b, off, none⟩ ∧ ∀ i, i < n → ∀ j v, (f (xs.getD i z))[j]? = some v → w.cell? ⟨b, off + i * 4 + j, none⟩ = some v) ∧ n ≤ cap
section
variable {α : Type} {f : α → List Value} {z : α} {w w' : World} {a : Option Addr} {n cap : Nat} {xs : List α}
theorem QS.below (h : QS f z w a n cap xs) (hb : Below w.heap.size w w') : QS f z w' a n cap xs := by
  obtain ⟨h1, h2, h3, h4⟩ := h
  refine ⟨h1, h2, fun hn => ?_, h4⟩
  obtain ⟨b, off, e, hc⟩ := h3 hn
  exact ⟨b, off, e, fun i hi j v hv => cell_below hb (hc i hi j v hv)⟩
theorem QS.at (h : QS f z w a n cap xs) (i : Nat) (hi : i < n) (v0 v1 v2 v3 : Value) (hf : f (xs.getD i z) = [v0, v1, v2, v3]) : ∃ b off, a = some ⟨b, off, none⟩ ∧ w.cell? ⟨b, off + i * 4, none⟩ = some v0 ∧ w.cell? ⟨b, off + i * 4 + 1, none⟩ = some v1 ∧ w.cell? ⟨b, off + i * 4 + 2, none⟩ = some v2 ∧ w.cell? ⟨b, off + i * 4 + 3, none⟩ = some v3 := by
  obtain ⟨b, off, e, hc⟩ := h.2.2.1 (by omega)
  have k := hc i hi
  rw [hf] at k
  exact ⟨b, off, e, k 0 _ rfl, k 1 _ rfl, k 2 _ rfl, k 3 _ rfl⟩
theorem og_qs {t : TypeId} {base : Nat} (hf : ∀ x, (f x).length = 4) (h : OG t 4 f w base (.slice a n cap) xs) : QS f z w a n cap xs := by
  obtain ⟨h1, h2, h3, h4⟩ := og_parts h
  refine ⟨h1, h2, fun hn => ?_, h3⟩
  obtain ⟨g, rfl, hc⟩ := h4 hn
  refine ⟨g, 0, rfl, fun i hi j v hv => ?_⟩
  have hj : j < 4 := by
    rcases Nat.lt_or_ge j 4 with h | h
    · exact h
    · rw [List.getElem?_eq_none (by rw [hf]; exact h)] at hv; cases hv
  rw [Nat.zero_add]
  exact hc _ _ (by rw [flat_get f 4 hf z xs i j (by omega) hj]; exact hv)
end
theorem infoSl : (Tryz.prog.info? 134).map (fun i => (i.zero, i.size, i.bytes)) = some (some (.agg #[.bool false, .int .i64 0, .int .i64 0, .int .i64 0]), 4, 32) := by kernel_rfl
theorem infoFr : (Tryz.prog.info? 136).map (fun i => (i.zero, i.size, i.bytes)) = some (some (.agg #[.int .i64 0, .int .i64 0, .int .i64 0, .int .i64 0]), 4, 32) := by kernel_rfl
set_option maxHeartbeats 1000000 in
theorem szSlotS_any (a : Option Addr) (n cap : Nat) (l : Int) (w : World) (h0 : 0 ≤ l) (h1 : l ≤ 1048576) (hn : n ≤ maxLen) :
    Calls Tryz.prog 119 #[.slice a n cap, .int .i64 l] w fun e w' => e = .returned (.int .i64 (szR l n)) ∧ w = w' := by
  unfold maxLen at hn
  unfold szR
  by_cases h : l < n
  · go_enter Tryz.func119, Tryz.ntmps119
    go_wp2
    go_ret
    exact ⟨rfl, rfl⟩
  · go_enter Tryz.func119, Tryz.ntmps119
    go_wp2
    go_ret
    exact ⟨rfl, rfl⟩
set_option maxHeartbeats 1000000 in
theorem szFrameS_any (a : Option Addr) (n cap : Nat) (l : Int) (w : World) (h0 : 0 ≤ l) (h1 : l ≤ 1048576) (hn : n ≤ maxLen) :
    Calls Tryz.prog 120 #[.slice a n cap, .int .i64 l] w fun e w' => e = .returned (.int .i64 (szR l n)) ∧ w = w' := by
  unfold maxLen at hn
  unfold szR
  by_cases h : l < n
  · go_enter Tryz.func120, Tryz.ntmps120
    go_wp2
    go_ret
    exact ⟨rfl, rfl⟩
  · go_enter Tryz.func120, Tryz.ntmps120
    go_wp2
    go_ret
    exact ⟨rfl, rfl⟩
theorem Blk.two' {w : World} {g : Nat} {a b : Value} {t : TypeId} (h : Blk w g #[a, b] t) : w.cell? ⟨g, 0, none⟩ = some a ∧ w.cell? ⟨g, 1, none⟩ = some b ∧ ∀ i, w.frozen? ⟨g, i, none⟩ = false :=
  ⟨by rw [h.cell]; rfl, by rw [h.cell]; rfl, fun i => h.frozen i⟩
set_option maxHeartbeats 400000 in
theorem szCore_hi (pc : Int) (a : Option Addr) (n cap : Nat) (l : Int) (w : World) (h0 : 0 ≤ l) (h1 : l ≤ 1048576) (hn : n ≤ maxLen) (hs : (n : Int) ≤ l) :
    Calls Tryz.prog 117 #[.agg #[.int .i64 pc, .slice a n cap], .int .i64 l] w fun e w' => e = .returned (.int .i64 (l - n)) ∧ Below w.heap.size w w' := by
  have HZ := hide (fun w => szIntS_any a n cap l w h0 h1 hn)
  rw [if_neg (by omega)] at HZ
  go_enter Tryz.func117, Tryz.ntmps117
  go_wp2_with (go_at_call 48; refine (HZ.out _).mono ?_; rintro e w' ⟨rfl, rfl⟩)
  go_ret
  exact ⟨rfl, (Below.refl _ _).alloc (Nat.le_refl _) _⟩
set_option maxHeartbeats 400000 in
theorem szCore_lo (pc : Int) (a : Option Addr) (n cap : Nat) (l : Int) (w : World) (h0 : 0 ≤ l) (h1 : l ≤ 1048576) (hn : n ≤ maxLen) (hs : l < (n : Int)) :
    Calls Tryz.prog 117 #[.agg #[.int .i64 pc, .slice a n cap], .int .i64 l] w fun e w' => e = .returned (.int .i64 (-1)) ∧ Below w.heap.size w w' := by
  have HZ := hide (fun w => szIntS_any a n cap l w h0 h1 hn)
  rw [if_pos hs] at HZ
  go_enter Tryz.func117, Tryz.ntmps117
  go_wp2_with (go_at_call 48; refine (HZ.out _).mono ?_; rintro e w' ⟨rfl, rfl⟩)
  go_ret
  exact ⟨rfl, (Below.refl _ _).alloc (Nat.le_refl _) _⟩
set_option maxHeartbeats 1000000 in
theorem toCore_any (pc : Int) (a : Option Addr) (n cap : Nat) (zs : List Int) (w : World) (h : IS w a n cap zs) (hn : n ≤ 1048576) :
    Calls Tryz.prog 122 #[.agg #[.int .i64 pc, .slice a n cap]] w fun e w' => ∃ g, w.heap.size ≤ g ∧ e = .returned (.agg #[.int .i64 pc, .slice (some ⟨g, 0, none⟩) n n]) ∧ RowI w' g zs ∧ Below w.heap.size w w' := by
  have hB0 : Below w.heap.size w (((w.alloc (.cells #[.int .i64 pc, .slice a n cap] 83)).alloc (.cells #[.int .i64 0, .slice none 0 0] 48)).alloc (.cells #[.int .i64 pc, .slice none 0 0] 48)) := (((Below.refl _ _).alloc (Nat.le_refl _) _).alloc (by simp) _).alloc (by simp; omega) _
  have kr := (Blk.new (w.alloc (.cells #[.int .i64 pc, .slice a n cap] 83)) #[.int .i64 0, .slice none 0 0] 48).alloc (.cells #[.int .i64 pc, .slice none 0 0] 48)
  have ko := Blk.new ((w.alloc (.cells #[.int .i64 pc, .slice a n cap] 83)).alloc (.cells #[.int .i64 0, .slice none 0 0] 48)) #[.int .i64 pc, .slice none 0 0] 48
  simp only [World.size_alloc] at kr ko
  go_enter Tryz.func122, Tryz.ntmps122
  go_wp2_with fail
  refine (toIntS_any a n cap zs _ (h.below hB0) hn).mono ?_
  rintro e w1 ⟨rfl, r1, hb1⟩
  have kr1 := kr.below hb1
  have ko1 := ko.below hb1
  have hB1 := hB0.trans (hb1.mono (by simp; omega))
  simp only [World.size_alloc] at r1
  obtain ⟨q1, q2, q3⟩ := kr1.two'
  obtain ⟨p1, p2, p3⟩ := ko1.two'
  have hz := ((kr1.other ⟨w.heap.size + 1 + 1, 1, none⟩ (.slice (some ⟨w.heap.size + 1 + 1 + 1, 0, none⟩) n n) (by dsimp only; omega)).set 0 (.int .i64 pc)).set 1 (.slice (some ⟨w.heap.size + 1 + 1 + 1, 0, none⟩) n n)
  have rr : RowI (((w1.setCell ⟨w.heap.size + 1 + 1, 1, none⟩ (.slice (some ⟨w.heap.size + 1 + 1 + 1, 0, none⟩) n n)).setCell ⟨w.heap.size + 1, 0, none⟩ (.int .i64 pc)).setCell ⟨w.heap.size + 1, 1, none⟩ (.slice (some ⟨w.heap.size + 1 + 1 + 1, 0, none⟩) n n)) (w.heap.size + 1 + 1 + 1) zs := by
    unfold RowI at *
    rw [heap_setCell_other _ _ _ _ (by dsimp only; omega), heap_setCell_other _ _ _ _ (by dsimp only; omega), heap_setCell_other _ _ _ _ (by dsimp only; omega)]
    exact r1
  have hB2 := ((hB1.setCell (p := ⟨w.heap.size + 1 + 1, 1, none⟩) (by dsimp only; omega) (.slice (some ⟨w.heap.size + 1 + 1 + 1, 0, none⟩) n n)).setCell (p := ⟨w.heap.size + 1, 0, none⟩) (by dsimp only; omega) (.int .i64 pc)).setCell (p := ⟨w.heap.size + 1, 1, none⟩) (by dsimp only; omega) (.slice (some ⟨w.heap.size + 1 + 1 + 1, 0, none⟩) n n)
  have hz' : Blk (((w1.setCell ⟨w.heap.size + 1 + 1, 1, none⟩ (.slice (some ⟨w.heap.size + 1 + 1 + 1, 0, none⟩) n n)).setCell ⟨w.heap.size + 1, 0, none⟩ (.int .i64 pc)).setCell ⟨w.heap.size + 1, 1, none⟩ (.slice (some ⟨w.heap.size + 1 + 1 + 1, 0, none⟩) n n)) (w.heap.size + 1) #[.int .i64 pc, .slice (some ⟨w.heap.size + 1 + 1 + 1, 0, none⟩) n n] 48 := by simpa using hz
  obtain ⟨s1, s2, s3⟩ := hz'.two'
  have HX := hide (And.intro rr hB2)
  clear hz hz' rr hB2 hB1 hb1 r1 kr1 ko1 kr ko hB0
  go_wp2
  exact bodyPost_ret (v := .agg #[.int .i64 pc, .slice (some ⟨w.heap.size + 1 + 1 + 1, 0, none⟩) n n]) (by simp [results, Tryz.results122, go_sem, s1, s2]) rfl ⟨_, by omega, rfl, HX.out.1, HX.out.2⟩
set_option maxHeartbeats 1000000 in
theorem eqCore_same (pc : Int) (a b : Option Addr) (n cap cap' : Nat) (zs : List Int) (w : World) (h : IS w a n cap zs) (k : IS w b n cap' zs) :
    Calls Tryz.prog 107 #[.agg #[.int .i64 pc, .slice a n cap], .agg #[.int .i64 pc, .slice b n cap']] w fun e w' => e = .returned (.bool true) ∧ Below w.heap.size w w' := by
  have hB0 : Below w.heap.size w ((w.alloc (.cells #[.int .i64 pc, .slice a n cap] 48)).alloc (.cells #[.int .i64 pc, .slice b n cap'] 48)) := ((Below.refl _ _).alloc (Nat.le_refl _) _).alloc (by simp) _
  have hp : (pc != pc) = false := by simp
  go_enter Tryz.func107, Tryz.ntmps107
  go_wp2_with fail
  refine (eqIntS_any a b n cap n cap' zs zs _ (h.below hB0) (k.below hB0)).mono ?_
  rw [decide_eq_true rfl]
  rintro e w1 ⟨rfl, hb1⟩
  go_wp2
  go_ret
  exact ⟨rfl, hB0.trans (hb1.mono (by simp; omega))⟩
end Go.Proofs.YtngdgogjlpjjpaeGreat
namespace Go.Proofs.YtngdgogjlpjjpaeGreat
open Go.RowKit
set_option linter.unusedVariables false
theorem szByteS_lo (a : Option Addr) (n cap : Nat) (l : Int) (w : World) (h0 : 0 ≤ l) (h1 : l ≤ 1048576) (hn : n ≤ maxLen) (h : l < n) :
    Calls Tryz.prog 104 #[.slice a n cap, .int .i64 l] w fun e w' => e = .returned (.int .i64 (-1)) ∧ w = w' :=
  (szByteS_any a n cap l w h0 h1 hn).mono fun e w' he => ⟨by rw [he.1, if_pos h], he.2.symm⟩
theorem szByteS_hi (a : Option Addr) (n cap : Nat) (l : Int) (w : World) (h0 : 0 ≤ l) (h1 : l ≤ 1048576) (hn : n ≤ maxLen) (h : n ≤ l) :
    Calls Tryz.prog 104 #[.slice a n cap, .int .i64 l] w fun e w' => e = .returned (.int .i64 (l - n)) ∧ w = w' :=
  (szByteS_any a n cap l w h0 h1 hn).mono fun e w' he => ⟨by rw [he.1, if_neg (by omega)], he.2.symm⟩
set_option maxHeartbeats 400000 in
theorem szMem_hi (a1 a2 a3 : Option Addr) (n1 c1 n2 c2 n3 c3 : Nat) (l : Int) (w : World) (h0 : 0 ≤ l) (h1 : l ≤ 1048576) (m1 : n1 ≤ maxLen) (m2 : n2 ≤ maxLen) (m3 : n3 ≤ maxLen) (h : (n1 : Int) + n2 + n3 ≤ l) :
    Calls Tryz.prog 118 #[.agg #[.slice a1 n1 c1, .slice a2 n2 c2, .slice a3 n3 c3], .int .i64 l] w fun e w' => e = .returned (.int .i64 (l - n1 - n2 - n3)) ∧ Below w.heap.size w w' := by
  go_enter Tryz.func118, Tryz.ntmps118
  go_wp2_with fail
  refine (szByteS_hi a1 n1 c1 l _ (by omega) (by omega) m1 (by omega)).mono ?_
  rintro e w' ⟨rfl, rfl⟩
  go_wp2_with fail
  refine (szByteS_hi a2 n2 c2 _ _ (by omega) (by omega) m2 (by omega)).mono ?_
  rintro e w' ⟨rfl, rfl⟩
  go_wp2_with fail
  refine (szByteS_hi a3 n3 c3 _ _ (by omega) (by omega) m3 (by omega)).mono ?_
  rintro e w' ⟨rfl, rfl⟩
  go_wp2
  go_ret
  exact ⟨rfl, (Below.refl _ _).alloc (Nat.le_refl _) _⟩
set_option maxHeartbeats 400000 in
theorem szMem_lo (a1 a2 a3 : Option Addr) (n1 c1 n2 c2 n3 c3 : Nat) (l : Int) (w : World) (h0 : 0 ≤ l) (h1 : l ≤ 1048576) (m1 : n1 ≤ maxLen) (m2 : n2 ≤ maxLen) (m3 : n3 ≤ maxLen) (h : l < (n1 : Int) + n2 + n3) :
    Calls Tryz.prog 118 #[.agg #[.slice a1 n1 c1, .slice a2 n2 c2, .slice a3 n3 c3], .int .i64 l] w fun e w' => e = .returned (.int .i64 (-1)) ∧ Below w.heap.size w w' := by
  by_cases k1 : l < (n1 : Int)
  · go_enter Tryz.func118, Tryz.ntmps118
    go_wp2_with fail
    refine (szByteS_lo a1 n1 c1 l _ (by omega) (by omega) m1 (by omega)).mono ?_
    rintro e w' ⟨rfl, rfl⟩
    go_wp2
    go_ret
    exact ⟨rfl, (Below.refl _ _).alloc (Nat.le_refl _) _⟩
  · by_cases k2 : l < (n1 : Int) + n2
    · go_enter Tryz.func118, Tryz.ntmps118
      go_wp2_with fail
      refine (szByteS_hi a1 n1 c1 l _ (by omega) (by omega) m1 (by omega)).mono ?_
      rintro e w' ⟨rfl, rfl⟩
      go_wp2_with fail
      refine (szByteS_lo a2 n2 c2 _ _ (by omega) (by omega) m2 (by omega)).mono ?_
      rintro e w' ⟨rfl, rfl⟩
      go_wp2
      go_ret
      exact ⟨rfl, (Below.refl _ _).alloc (Nat.le_refl _) _⟩
    · go_enter Tryz.func118, Tryz.ntmps118
      go_wp2_with fail
      refine (szByteS_hi a1 n1 c1 l _ (by omega) (by omega) m1 (by omega)).mono ?_
      rintro e w' ⟨rfl, rfl⟩
      go_wp2_with fail
      refine (szByteS_hi a2 n2 c2 _ _ (by omega) (by omega) m2 (by omega)).mono ?_
      rintro e w' ⟨rfl, rfl⟩
      go_wp2_with fail
      refine (szByteS_lo a3 n3 c3 _ _ (by omega) (by omega) m3 (by omega)).mono ?_
      rintro e w' ⟨rfl, rfl⟩
      go_wp2
      go_ret
      exact ⟨rfl, (Below.refl _ _).alloc (Nat.le_refl _) _⟩
end Go.Proofs.YtngdgogjlpjjpaeGreat
namespace Go.Proofs.YtngdgogjlpjjpaeGreat
open Go.RowKit
set_option linter.unusedVariables false
set_option linter.unusedSimpArgs false
set_option maxRecDepth 100000
structure Mn where
  ma : Option Addr
  mn : Nat
  mc : Nat
  ms : List Md
  cs : Int
  cw : Int
  ck : Int
  cd : Int
  pc : Int
  ka : Option Addr
  kn : Nat
  kc : Nat
  kz : List Int
  fa : Option Addr
  fn : Nat
  fc : Nat
  fz : List Int
  ra : Option Addr
  rn : Nat
  rc : Nat
  rz : List Int
  oa : Option Addr
  on : Nat
  oc : Nat
  oz : List Int
  md : Int
  bk : Int
  la : Option Addr
  ln : Nat
  lc : Nat
  lz : List SlT
  ha : Option Addr
  hn : Nat
  hc : Nat
  hz : List FrT
  tn : Int
structure MnT (w : World) (M : Mn) : Prop where
  m : MS w M.ma M.mn M.mc M.ms
  k : IS w M.ka M.kn M.kc M.kz
  f : BS w M.fa M.fn M.fc M.fz
  r : BS w M.ra M.rn M.rc M.rz
  o : BS w M.oa M.on M.oc M.oz
  l : QS clSl zSl w M.la M.ln M.lc M.lz
  h : QS clFr zFr w M.ha M.hn M.hc M.hz
theorem MnT.below {w w' : World} {M : Mn} (h : MnT w M) (hb : Below w.heap.size w w') : MnT w' M := ⟨h.m.below hb, h.k.below hb, h.f.below hb, h.r.below hb, h.o.below hb, h.l.below hb, h.h.below hb⟩
structure MnB (M : Mn) : Prop where
  n : M.mn ≤ 1048576
  m : ∀ i, i < M.mn → (M.ms.getD i zMd).size ≤ 1048576
  k : M.kn ≤ 1048576
  b : M.fn + M.rn + M.on ≤ 1048576
  l : M.ln ≤ 1048576
  h : M.hn ≤ 1048576
theorem Blk.mc {w : World} {b : Nat} {t : TypeId} {v0 v1 v2 v3 v4 v5 v6 v7 v8 v9 v10 v11 v12 v13 v14 : Value} (h : Blk w b #[v0, v1, v2, v3, v4, v5, v6, v7, v8, v9, v10, v11, v12, v13, v14] t) : w.cell? ⟨b, 0, none⟩ = some v0 ∧ w.cell? ⟨b, 1, none⟩ = some v1 ∧ w.cell? ⟨b, 2, none⟩ = some v2 ∧ w.cell? ⟨b, 3, none⟩ = some v3 ∧ w.cell? ⟨b, 4, none⟩ = some v4 ∧ w.cell? ⟨b, 5, none⟩ = some v5 ∧ w.cell? ⟨b, 6, none⟩ = some v6 ∧ w.cell? ⟨b, 7, none⟩ = some v7 ∧ w.cell? ⟨b, 8, none⟩ = some v8 ∧ w.cell? ⟨b, 9, none⟩ = some v9 ∧ w.cell? ⟨b, 10, none⟩ = some v10 ∧ w.cell? ⟨b, 11, none⟩ = some v11 ∧ w.cell? ⟨b, 12, none⟩ = some v12 ∧ w.cell? ⟨b, 13, none⟩ = some v13 ∧ w.cell? ⟨b, 14, none⟩ = some v14 := ⟨h.cell 0, h.cell 1, h.cell 2, h.cell 3, h.cell 4, h.cell 5, h.cell 6, h.cell 7, h.cell 8, h.cell 9, h.cell 10, h.cell 11, h.cell 12, h.cell 13, h.cell 14⟩
set_option maxHeartbeats 4000000 in
theorem szMachine_any (M : Mn) (w : World) (h : MnT w M) :
    Calls Tryz.prog 43 #[.agg #[.slice M.ma M.mn M.mc, .int .i64 M.cs, .int .i64 M.cw, .int .i64 M.ck, .int .i64 M.cd, .int .i64 M.pc, .slice M.ka M.kn M.kc, .slice M.fa M.fn M.fc, .slice M.ra M.rn M.rc, .slice M.oa M.on M.oc, .int .i64 M.md, .int .i64 M.bk, .slice M.la M.ln M.lc, .slice M.ha M.hn M.hc, .int .i64 M.tn], .int .i64 1048576] w fun e w' => ∃ z : Int, e = .returned (.int .i64 z) ∧ (0 ≤ z → MnB M) ∧ Below w.heap.size w w' := by
  have k0 := Blk.new w #[.slice M.ma M.mn M.mc, .int .i64 M.cs, .int .i64 M.cw, .int .i64 M.ck, .int .i64 M.cd, .int .i64 M.pc, .slice M.ka M.kn M.kc, .slice M.fa M.fn M.fc, .slice M.ra M.rn M.rc, .slice M.oa M.on M.oc, .int .i64 M.md, .int .i64 M.bk, .slice M.la M.ln M.lc, .slice M.ha M.hn M.hc, .int .i64 M.tn] 88
  have B0 : Below w.heap.size w (w.alloc (.cells #[.slice M.ma M.mn M.mc, .int .i64 M.cs, .int .i64 M.cw, .int .i64 M.ck, .int .i64 M.cd, .int .i64 M.pc, .slice M.ka M.kn M.kc, .slice M.fa M.fn M.fc, .slice M.ra M.rn M.rc, .slice M.oa M.on M.oc, .int .i64 M.md, .int .i64 M.bk, .slice M.la M.ln M.lc, .slice M.ha M.hn M.hc, .int .i64 M.tn] 88)) := (Below.refl _ _).alloc (Nat.le_refl _) _
  have H1 := hide (szModuleS_any M.ma M.mn M.mc M.ms 1048576 _ (h.m.below B0) (by omega) (by omega))
  have H2 := hide (fun (z : Int) (W : World) (z0 : 0 ≤ z) (z1 : z ≤ 1048576) => And.intro (fun q => szCore_hi M.pc M.ka M.kn M.kc z W z0 z1 h.k.2.1 q) (fun q => szCore_lo M.pc M.ka M.kn M.kc z W z0 z1 h.k.2.1 q))
  have H3 := hide (fun (z : Int) (W : World) (z0 : 0 ≤ z) (z1 : z ≤ 1048576) => And.intro (fun q => szMem_hi M.fa M.ra M.oa M.fn M.fc M.rn M.rc M.on M.oc z W z0 z1 h.f.2.1 h.r.2.1 h.o.2.1 q) (fun q => szMem_lo M.fa M.ra M.oa M.fn M.fc M.rn M.rc M.on M.oc z W z0 z1 h.f.2.1 h.r.2.1 h.o.2.1 q))
  have H4 := hide (fun (z : Int) (W : World) (z0 : 0 ≤ z) (z1 : z ≤ 1048576) => szSlotS_any M.la M.ln M.lc z W z0 z1 h.l.2.1)
  have H5 := hide (fun (z : Int) (W : World) (z0 : 0 ≤ z) (z1 : z ≤ 1048576) => szFrameS_any M.ha M.hn M.hc z W z0 z1 h.h.2.1)
  have HUP := hide (fun i hi => upS_le (fun j => (M.ms.getD j zMd).size) M.mn i hi)
  unfold szR at H1 H4 H5
  have HK := hide (And.intro B0 k0)
  clear B0 k0 h
  generalize hq1 : M.mn + upS (fun j => (M.ms.getD j zMd).size) M.mn = q1 at *
  have HQ1 := hide hq1
  clear hq1
  by_cases c1 : (1048576 : Int) < (q1 : Int)
  · rw [if_pos c1] at H1
    go_enter Tryz.func43, Tryz.ntmps43
    go_wp2_with fail
    refine H1.out.mono ?_
    rintro e w1 ⟨rfl, hb1⟩
    go_wp2
    go_ret
    exact ⟨-1, rfl, fun h => absurd h (by decide), HK.out.1.trans (hb1.mono HK.out.1.size)⟩
  rw [if_neg c1] at H1
  obtain ⟨z1, hz1⟩ : ∃ z1 : Int, z1 = 1048576 - q1 := ⟨_, rfl⟩
  rw [← hz1] at H1
  have d1 : ¬ z1 < 0 := by omega
  have e1 : z1 ≤ 1048576 := by omega
  have HZ1 := hide hz1
  clear hz1
  go_enter Tryz.func43, Tryz.ntmps43
  go_wp2_with fail
  refine H1.out.mono ?_
  rintro e w1 ⟨rfl, hb1⟩
  have B1 := HK.out.1.trans (hb1.mono HK.out.1.size)
  have k1 := HK.out.2.below hb1
  have HBK := hide (And.intro B1 k1)
  clear hb1 HK H1 B1
  have y5 : w1.cell? ⟨w.heap.size, 5, none⟩ = some (.int .i64 M.pc) := k1.cell 5
  have y6 : w1.cell? ⟨w.heap.size, 6, none⟩ = some (.slice M.ka M.kn M.kc) := k1.cell 6
  clear k1
  by_cases c2 : z1 < (M.kn : Int)
  · go_wp2_with fail
    refine ((H2.out z1 _ (by omega) e1).2 c2).mono ?_
    rintro e w2 ⟨rfl, hb2⟩
    go_wp2
    go_ret
    exact ⟨-1, rfl, fun h => absurd h (by decide), HBK.out.1.trans (hb2.mono HBK.out.1.size)⟩
  obtain ⟨z2, hz2⟩ : ∃ z2 : Int, z2 = z1 - M.kn := ⟨_, rfl⟩
  have d2 : ¬ z2 < 0 := by omega
  have e2 : z2 ≤ 1048576 := by omega
  have HZ2 := hide hz2
  go_wp2_with fail
  refine ((H2.out z1 _ (by omega) e1).1 (by omega)).mono ?_
  rintro e w2 ⟨rfl, hb2⟩
  rw [← hz2]
  have B2 := HBK.out.1.trans (hb2.mono HBK.out.1.size)
  have k2 := HBK.out.2.below hb2
  clear hb2 HBK y5 y6 hz2 H2
  have HBK := hide (And.intro B2 k2)
  clear B2
  have y7 : w2.cell? ⟨w.heap.size, 7, none⟩ = some (.slice M.fa M.fn M.fc) := k2.cell 7
  have y8 : w2.cell? ⟨w.heap.size, 8, none⟩ = some (.slice M.ra M.rn M.rc) := k2.cell 8
  have y9 : w2.cell? ⟨w.heap.size, 9, none⟩ = some (.slice M.oa M.on M.oc) := k2.cell 9
  clear k2
  by_cases c3 : z2 < (M.fn : Int) + M.rn + M.on
  · go_wp2_with fail
    refine ((H3.out z2 _ (by omega) e2).2 c3).mono ?_
    rintro e w3 ⟨rfl, hb3⟩
    go_wp2
    go_ret
    exact ⟨-1, rfl, fun h => absurd h (by decide), HBK.out.1.trans (hb3.mono HBK.out.1.size)⟩
  obtain ⟨z3, hz3⟩ : ∃ z3 : Int, z3 = z2 - M.fn - M.rn - M.on := ⟨_, rfl⟩
  have d3 : ¬ z3 < 0 := by omega
  have e3 : z3 ≤ 1048576 := by omega
  have HZ3 := hide hz3
  go_wp2_with fail
  refine ((H3.out z2 _ (by omega) e2).1 (by omega)).mono ?_
  rintro e w3 ⟨rfl, hb3⟩
  rw [← hz3]
  have B3 := HBK.out.1.trans (hb3.mono HBK.out.1.size)
  have k3 := HBK.out.2.below hb3
  clear hb3 HBK y7 y8 y9 hz3 H3
  have y12 : w3.cell? ⟨w.heap.size, 12, none⟩ = some (.slice M.la M.ln M.lc) := k3.cell 12
  have y13 : w3.cell? ⟨w.heap.size, 13, none⟩ = some (.slice M.ha M.hn M.hc) := k3.cell 13
  have HB := hide B3
  clear k3 B3
  go_wp2_with fail
  refine (H4.out z3 _ (by omega) e3).mono ?_
  rintro e w4 ⟨rfl, rfl⟩
  by_cases c4 : z3 < (M.ln : Int)
  · rw [if_pos c4]
    go_wp2
    go_ret
    exact ⟨-1, rfl, fun h => absurd h (by decide), HB.out⟩
  rw [if_neg c4]
  obtain ⟨z4, hz4⟩ : ∃ z4 : Int, z4 = z3 - M.ln := ⟨_, rfl⟩
  have d4 : ¬ z4 < 0 := by omega
  have e4 : z4 ≤ 1048576 := by omega
  have HZ4 := hide hz4
  rw [← hz4]
  clear hz4 H4
  go_wp2_with fail
  refine (H5.out z4 _ (by omega) e4).mono ?_
  rintro e w5 ⟨rfl, rfl⟩
  by_cases c5 : z4 < (M.hn : Int)
  · rw [if_pos c5]
    go_wp2
    go_ret
    exact ⟨-1, rfl, fun h => absurd h (by decide), HB.out⟩
  rw [if_neg c5]
  have d5 : ¬ z4 - (M.hn : Int) < 0 := by omega
  have HF := hide (show MnB M from by
    have h1 := HQ1.out; have h2 := HZ1.out; have h3 := HZ2.out; have h4 := HZ3.out; have h5 := HZ4.out
    exact ⟨by omega, fun i hi => by have := HUP.out i hi; omega, by omega, by omega, by omega, by omega⟩)
  go_wp2
  go_ret
  exact ⟨_, rfl, fun _ => HF.out, HB.out⟩
structure MnD (w : World) (M : Mn) : Prop where
  m : MSD w M.ma M.mn M.mc M.ms
  k : IS w M.ka M.kn M.kc M.kz
  f : BS w M.fa M.fn M.fc M.fz
  r : BS w M.ra M.rn M.rc M.rz
  o : BS w M.oa M.on M.oc M.oz
  l : QS clSl zSl w M.la M.ln M.lc M.lz
  h : QS clFr zFr w M.ha M.hn M.hc M.hz
theorem MnD.below {w w' : World} {M : Mn} (h : MnD w M) (hb : Below w.heap.size w w') : MnD w' M := ⟨h.m.below hb, h.k.below hb, h.f.below hb, h.r.below hb, h.o.below hb, h.l.below hb, h.h.below hb⟩
abbrev usd (m b : Int) (x : SlT) : Prop := x.1 = true ∧ x.2.1 = m ∧ x.2.2.1 = b
def hldL (m b : Int) : Nat → List SlT → Int
  | _, [] => -1
  | i, x :: xs => if usd m b x then (i : Int) else hldL m b (i + 1) xs
def hld (xs : List SlT) (m b : Int) : Int := hldL m b 0 xs
theorem drop_at {α : Type} (xs : List α) (z : α) (k : Nat) (h : k < xs.length) : xs.drop k = xs.getD k z :: xs.drop (k + 1) := by
  rw [List.drop_eq_getElem_cons h]
  simp [List.getD_eq_getElem?_getD, h]
theorem hldL_hit {xs : List SlT} {m b : Int} {k : Nat} (h : k < xs.length) (hu : usd m b (xs.getD k zSl)) : hldL m b k (xs.drop k) = k := by
  rw [drop_at xs zSl k h, hldL, if_pos hu]
theorem hldL_miss {xs : List SlT} {m b : Int} {k : Nat} (h : k < xs.length) (hu : ¬ usd m b (xs.getD k zSl)) : hldL m b k (xs.drop k) = hldL m b (k + 1) (xs.drop (k + 1)) := by
  rw [drop_at xs zSl k h, hldL, if_neg hu]
theorem hldL_range (m b : Int) : ∀ (xs : List SlT) (i : Nat), hldL m b i xs = -1 ∨ ((i : Int) ≤ hldL m b i xs ∧ hldL m b i xs < (i : Int) + xs.length)
  | [], i => .inl rfl
  | x :: xs, i => by
    unfold hldL
    by_cases c : usd m b x
    · rw [if_pos c]; exact .inr ⟨Int.le_refl _, by simp; omega⟩
    · rw [if_neg c]
      rcases hldL_range m b xs (i + 1) with h | h
      · exact .inl h
      · exact .inr (by simp at h ⊢; omega)
theorem hld_range (xs : List SlT) (m b : Int) : hld xs m b = -1 ∨ (0 ≤ hld xs m b ∧ hld xs m b < (xs.length : Int)) := by
  have := hldL_range m b xs 0
  simpa [hld] using this
theorem LayO.lyt {W : World} {base : Nat} {L : Lay} {a0 : Option Addr} {c0 : Nat} {xs : List PB} {a2 : Option Addr} {c2 : Nat} {a5 : Option Addr} {c5 : Nat} {ts : List TB} (h : LayO W base L a0 c0 xs a2 c2 a5 c5 ts) (R : LayR L) (hv : wfi L.stack ∧ wfi L.flash ∧ wfi L.ram) : LyT W L a0 c0 xs a2 c2 a5 c5 ts where
  p := by
    obtain ⟨_, h2, h3, h4⟩ := og_parts h.p.head
    refine ⟨rfl, by omega, fun hn => ?_, fun i hi => ?_, by omega⟩
    · obtain ⟨g, hg, _⟩ := h4 hn
      refine ⟨g, 0, hg, fun i hi => ?_⟩
      obtain ⟨g', hg', q1, q2, q3, q4, _⟩ := opl_at h.p i hi
      rw [hg] at hg'
      simp at hg'
      subst hg'
      simp only [Nat.zero_add]
      exact ⟨q1, q2, q3, q4⟩
    · obtain ⟨_, _, _, _, _, _, o⟩ := opl_at h.p i hi
      exact og_is o (R.p _ (by rw [← h.ps]; exact List.mem_map.2 ⟨xs.getD i zPB, by simp [List.getD_eq_getElem?_getD, hi], rfl⟩))
  ps := h.ps
  s := og_is h.s R.s
  t := by
    obtain ⟨_, h2, h3, h4⟩ := og_parts h.t.head
    refine ⟨rfl, by omega, fun hn => ?_, fun i hi => ?_, by omega⟩
    · obtain ⟨g, hg, _⟩ := h4 hn
      refine ⟨g, 0, hg, fun i hi => ?_⟩
      obtain ⟨g', hg', q1, _⟩ := otg_at h.t i hi
      rw [hg] at hg'
      simp at hg'
      subst hg'
      simp only [Nat.zero_add]
      exact q1
    · obtain ⟨_, _, _, o⟩ := otg_at h.t i hi
      obtain ⟨k1, k2, k3, k4⟩ := og_parts o
      refine ⟨k1, by omega, fun hn => ?_, by omega⟩
      obtain ⟨g, hg, _⟩ := k4 hn
      refine ⟨g, 0, hg, fun j hj => ?_⟩
      obtain ⟨g', hg', u0, u1, u2⟩ := ogG_at o j hj
      rw [hg] at hg'
      simp at hg'
      subst hg'
      simp only [Nat.zero_add]
      exact ⟨u0, u1, u2⟩
  tt := h.tt
  v := hv
theorem lay_v {ps : List PMod} {s w k d : Int} (h : lkc ps s w k d = 0) : wfi (lay ps s w k).stack ∧ wfi (lay ps s w k).flash ∧ wfi (lay ps s w k).ram := by
  obtain ⟨hc, h1, h2, hv, _⟩ := lkc_facts h
  unfold cfo at hc
  simp at hc
  obtain ⟨c1, c2, c3, c4, c5, c6, _⟩ := hc
  have a1 := Ra_range hv ps.length (Nat.le_refl _)
  have a2 := Fl_range hv ps.length (Nat.le_refl _)
  have a4 := rnd_range (x := 4 * w) (by omega)
  have a5 : (0 : Int) ≤ (s.toNat : Int) * rnd (4 * w) := Int.mul_nonneg (by omega) (by omega)
  have a6 : (s.toNat : Int) * rnd (4 * w) ≤ 4 * 287 := Int.mul_le_mul (by omega) (by omega) (by omega) (by omega)
  simp only [lay]
  unfold wfi
  omega
theorem lkL_v (ps : List PMod) (s w k d : Int) : wfi (lkL ps s w k d).stack ∧ wfi (lkL ps s w k d).flash ∧ wfi (lkL ps s w k d).ram := by
  unfold lkL
  by_cases h : lkc ps s w k d = 0
  · rw [if_pos h]; exact lay_v h
  · rw [if_neg h]; unfold L0 wfi; simp
def endOf (L : Lay) : Int := if L.slots = [] then wrap64 (65536 + L.ram) else L.slots.getD 0 0
set_option maxHeartbeats 1000000 in
theorem l5Ends_any (L : Lay) (a0 : Option Addr) (c0 : Nat) (xs : List PB) (a2 : Option Addr) (c2 : Nat) (a5 : Option Addr) (c5 : Nat) (ts : List TB) (w : World) (h : LyT w L a0 c0 xs a2 c2 a5 c5 ts) :
    Calls Tryz.prog 131 #[.agg #[.slice a0 xs.length c0, .int .i64 L.stack, .slice a2 L.slots.length c2, .int .i64 L.flash, .int .i64 L.ram, .slice a5 ts.length c5]] w fun e w' => e = .returned (.int .i64 (endOf L)) ∧ Below w.heap.size w w' := by
  have HB := hide (show Below w.heap.size w (w.alloc (.cells #[.slice a0 xs.length c0, .int .i64 L.stack, .slice a2 L.slots.length c2, .int .i64 L.flash, .int .i64 L.ram, .slice a5 ts.length c5] 36)) from (Below.refl _ _).alloc (Nat.le_refl _) _)
  have hs := h.s.below HB.out
  have hmx := h.s.2.1
  unfold maxLen at hmx
  unfold endOf
  by_cases c : L.slots = []
  · rw [if_pos c]
    have hl : L.slots.length = 0 := by rw [c]; rfl
    rw [hl]
    rw [hl] at HB
    go_enter Tryz.func131, Tryz.ntmps131
    go_wp2
    go_ret
    exact ⟨rfl, HB.out⟩
  · rw [if_neg c]
    have hl : 0 < L.slots.length := List.length_pos_iff.2 c
    have hl' : (0 : Int) < (L.slots.length : Int) := by omega
    obtain ⟨b, off, rfl, hc⟩ := hs.2.2.2.1 (by omega)
    have q := hc 0 hl
    rw [Nat.add_zero] at q
    generalize L.slots.length = n at *
    generalize L.slots.getD 0 0 = z at *
    clear hs hc c
    go_enter Tryz.func131, Tryz.ntmps131
    go_wp2
    go_ret
    exact ⟨rfl, HB.out⟩
end Go.Proofs.YtngdgogjlpjjpaeGreat
