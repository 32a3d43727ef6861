import Derived.Test.YtngdgogjlpjjpacJ39
import Derived.Laws.IdiomStrings
namespace Go.Proofs.Ytngdgogjlpjjpac
open Go.RowKit
set_option linter.unusedVariables false
set_option linter.unusedSimpArgs false
set_option maxRecDepth 100000

/-- the bytes of a text -/
def strB (s : ByteArray) : List Int := s.data.toList.map fun b => (b.toNat : Int)
theorem strB_len (s : ByteArray) : (strB s).length = s.size := by simp [strB]
theorem strB_range (s : ByteArray) : ∀ z ∈ strB s, 0 ≤ z ∧ z ≤ 255 := by
  intro z hz
  simp only [strB, List.mem_map] at hz
  obtain ⟨b, _, rfl⟩ := hz
  have := b.toNat_lt
  omega
theorem strB_news (w : World) (s : ByteArray) (cap : Nat) (fr : Nat × Nat) (t : TypeId) (g : Nat) (hg : g = w.heap.size) : ∀ j u, ((strB s).map (Value.int .u8))[j]? = some u → (w.alloc (.cells (bytesRow s cap) t fr)).cell? ((⟨g, 0, none⟩ : Addr).add j) = some u := by
  intro j u hj
  subst hg
  have e : (Addr.add ⟨w.heap.size, 0, none⟩ j) = ⟨w.heap.size, j, none⟩ := by rw [addr_add, Nat.zero_add]
  rw [e, World.cell?_alloc_mark]
  have hl : j < s.size := by
    by_cases h : j < s.size
    · exact h
    · rw [List.getElem?_eq_none (by simp [strB]; omega)] at hj; simp at hj
  rw [← hj]
  unfold bytesRow
  rw [Array.getElem?_append_left (by simpa using hl)]
  simp [strB]
  rfl
theorem ones8 (zs : List Int) : ∀ u ∈ zs.map (Value.int .u8), u.oneCell' = true := by
  intro u hu
  simp only [List.mem_map] at hu
  obtain ⟨z, _, rfl⟩ := hu
  rfl
theorem ob_join {w : World} {base : Nat} {v : Value} {xs ys : List Int} (hx : ∀ z ∈ xs, 0 ≤ z ∧ z ≤ 255) (hy : ∀ z ∈ ys, 0 ≤ z ∧ z ≤ 255) (h : w.ownsRow base 5 1 v (xs.length + ys.length) (xs.map (Value.int .u8) ++ ys.map (Value.int .u8))) : OB w base v (xs ++ ys) :=
  ⟨by simpa using h, fun z hz => by
    rcases List.mem_append.1 hz with h | h
    · exact hx z h
    · exact hy z h⟩
theorem ob_form {w : World} {base : Nat} {v : Value} {zs : List Int} (h : OB w base v zs) (hn : zs.length ≠ 0) : ∃ g d, v = .slice (some ⟨g, 0, none⟩) zs.length d := by
  obtain ⟨hl, ⟨h0', h1⟩ | ⟨g, cap', cur, hv, _⟩⟩ := h.1
  · exact absurd h1 hn
  · exact ⟨g, cap', hv⟩
/-- a text with its length -/
def encT (s : ByteArray) : List Int := encN s.size 1 ++ strB s
theorem encT_len (s : ByteArray) : (encT s).length = 1 + s.size := by simp [encT, encN_len, strB_len]
/-- WHAT A WRITER OF BYTES GIVES: bytes of its own. -/
def EnPost (w : World) (zs : List Int) (e : Ending) (w' : World) : Prop := ∃ g d, e = .returned (.slice (some ⟨g, 0, none⟩) zs.length d) ∧ OB w' w.heap.size (.slice (some ⟨g, 0, none⟩) zs.length d) zs ∧ Below w.heap.size w w'

/-- words as bytes, the first k of them -/
def encW (s : Nat) (zs : List Int) (k : Nat) : List Int := (zs.take k).flatMap fun z => encN z s
theorem encW_succ (s : Nat) (zs : List Int) (k : Nat) (h : k < zs.length) : encW s zs (k + 1) = encW s zs k ++ encN (zs.getD k 0) s := by
  unfold encW
  rw [List.take_succ_eq_append_getElem h, List.flatMap_append]
  simp [List.getD_eq_getElem?_getD, h]
theorem encW_len (s : Nat) (zs : List Int) : ∀ k, k ≤ zs.length → (encW s zs k).length = k * s
  | 0, _ => by simp [encW]
  | k + 1, h => by rw [encW_succ s zs k (by omega), List.length_append, encW_len s zs k (by omega), encN_len, Nat.succ_mul]
theorem encW_range (s : Nat) (zs : List Int) (k : Nat) : ∀ z ∈ encW s zs k, 0 ≤ z ∧ z ≤ 255 := by
  intro z hz
  simp only [encW, List.mem_flatMap] at hz
  obtain ⟨x, _, hz⟩ := hz
  exact encN_range _ _ z hz
theorem app_range {xs ys : List Int} (hx : ∀ z ∈ xs, 0 ≤ z ∧ z ≤ 255) (hy : ∀ z ∈ ys, 0 ≤ z ∧ z ≤ 255) : ∀ z ∈ xs ++ ys, 0 ≤ z ∧ z ≤ 255 := fun z hz => by
  rcases List.mem_append.1 hz with h | h
  · exact hx z h
  · exact hy z h
/-- words with their count -/
def encL (zs : List Int) : List Int := encN zs.length 2 ++ encW 4 zs zs.length
theorem encL_len (zs : List Int) : (encL zs).length = 2 + zs.length * 4 := by simp [encL, encN_len, encW_len]
theorem ob_cells {w : World} {base g n cap : Nat} {zs : List Int} (h : OB w base (.slice (some ⟨g, 0, none⟩) n cap) zs) : ∀ j u, (zs.map (Value.int .u8))[j]? = some u → w.cell? ((⟨g, 0, none⟩ : Addr).add j) = some u := bs_news h.bs

end Go.Proofs.Ytngdgogjlpjjpac

namespace Go.Proofs.Ytngdgogjlpjjpac
open Go.RowKit
set_option linter.unusedVariables false
set_option linter.unusedSimpArgs false
set_option maxRecDepth 100000

/-- WHAT A VALID MODULE'S PARTS ARE. -/
structure Vm (nm : ByteArray) (tn : Nat) (tz : List Int) (bn : Nat) (bl : List Bk) (dn : Nat) (bss : Int) (rn : Nat) (rz : List Int) (im : Nat) (ss : List ByteArray) (en : Nat) (es : List Ex) : Prop where
  n : nm.size ≤ 12
  t : tn ≤ 200
  tw : ∀ z ∈ tz, 0 ≤ z ∧ z ≤ 4294967295
  b : bn ≤ 4
  bw : ∀ i, i < bl.length → (bl.getD i zB).2.1 ≤ 64 ∧ ∀ z ∈ (bl.getD i zB).2.2.2, 0 ≤ z ∧ z ≤ 4294967295
  d : dn ≤ 512
  s : 0 ≤ bss ∧ bss ≤ 512
  r : rn ≤ 16
  rw : ∀ i, i < rn → 0 ≤ rz.getD i 0 ∧ rz.getD i 0 ≤ 512
  i : im ≤ 16
  iw : ∀ i, i < im → (ss.getD i zS).size ≤ 25
  e : en ≤ 16
  ew : ∀ i, i < en → (es.getD i zE).1.size ≤ 12 ∧ -1 ≤ (es.getD i zE).2.1 ∧ (es.getD i zE).2.1 ≤ 4 ∧ 0 ≤ (es.getD i zE).2.2 ∧ (es.getD i zE).2.2 ≤ 200
theorem wds_all {zs : List Int} (h : wds zs = true) : ∀ z ∈ zs, 0 ≤ z ∧ z ≤ 4294967295 := fun z hz => by
  unfold wds at h
  rw [List.all_eq_true] at h
  simpa using h z hz
theorem nmo_size {s : ByteArray} (h : nmo s = true) : s.size ≤ 12 := by
  unfold nmo at h
  simp at h
  omega
theorem full_size {s : ByteArray} (h : full s = true) : s.size ≤ 25 := by
  unfold full at h
  simp only [Bool.and_eq_true, decide_eq_true_eq] at h
  obtain ⟨h0, h1, h2⟩ := h
  have a1 := nmo_size h1
  have a2 := nmo_size h2
  have hd := dot_range s
  unfold cutA at a1
  unfold cutB at a2
  simp only [ByteArray.size_extract] at a1 a2
  omega
theorem rng_all {f : Nat → Bool} {n : Nat} (h : (List.range n).all f = true) (i : Nat) (hi : i < n) : f i = true := by
  rw [List.all_eq_true] at h
  exact h i (by simpa using hi)
theorem vm_of_mdo {nm : ByteArray} {tn : Nat} {tz : List Int} {bn : Nat} {bl : List Bk} {dn : Nat} {bss : Int} {rn : Nat} {rz : List Int} {im : Nat} {ss : List ByteArray} {en : Nat} {es : List Ex} (hbl : bl.length = bn) (h : mdo nm tn tz bn bl dn bss rn rz im ss en es = 0) : Vm nm tn tz bn bl dn bss rn rz im ss en es := by
  unfold mdo at h
  by_cases c1 : nmo nm = false
  · rw [if_pos c1] at h; simp at h
  rw [if_neg c1] at h
  by_cases c2 : cdo tn tz bn bl = false
  · rw [if_pos c2] at h; simp at h
  rw [if_neg c2] at h
  by_cases c3 : 512 < dn ∨ bss < 0 ∨ 512 < bss
  · rw [if_pos c3] at h; simp at h
  rw [if_neg c3] at h
  by_cases c4 : rlo rn rz dn = false
  · rw [if_pos c4] at h; simp at h
  rw [if_neg c4] at h
  by_cases c5 : imo im ss = false
  · rw [if_pos c5] at h; simp at h
  rw [if_neg c5] at h
  by_cases c6 : exo tn bn bl en es = false
  · rw [if_pos c6] at h; simp at h
  simp only [Bool.not_eq_false] at c1 c2 c4 c5 c6
  unfold cdo at c2
  unfold rlo at c4
  unfold imo at c5
  unfold exo at c6
  simp only [Bool.and_eq_true, decide_eq_true_eq] at c2 c4 c5 c6
  obtain ⟨⟨t1, t2⟩, t3, t4⟩ := c2
  have hb : ∀ i, i < bl.length → (bl.getD i zB).2.1 ≤ 64 ∧ ∀ z ∈ (bl.getD i zB).2.2.2, 0 ≤ z ∧ z ≤ 4294967295 := fun i hi => by
    rw [List.all_eq_true] at t4
    have hm : bl.getD i zB ∈ bl := by simp [List.getD_eq_getElem?_getD, hi]
    have := t4 _ hm
    unfold bko at this
    simp only [Bool.and_eq_true, decide_eq_true_eq] at this
    exact ⟨this.1.2, wds_all this.2⟩
  refine ⟨nmo_size c1, t1, wds_all t3, t2, hb, by omega, by omega, c4.1, fun i hi => ?_, c5.1, fun i hi => full_size (rng_all c5.2 i hi), c6.1, fun i hi => ?_⟩
  · have := rng_all c4.2 i hi
    unfold rlk at this
    simp only [Bool.and_eq_true, decide_eq_true_eq] at this
    omega
  · have := rng_all c6.2 i hi
    unfold ex1 at this
    simp only [Bool.and_eq_true, decide_eq_true_eq] at this
    obtain ⟨⟨n1, a1, a2⟩, _⟩ := this
    have n2 := nmo_size n1
    have hp : pcn tn bn bl (es.getD i zE).2.1 ≤ 200 ∧ (0 < pcn tn bn bl (es.getD i zE).2.1 → -1 ≤ (es.getD i zE).2.1 ∧ (es.getD i zE).2.1 ≤ 4) := by
      unfold pcn
      split
      · omega
      · split
        · next h1 h2 =>
          have := (hb (es.getD i zE).2.1.toNat (by omega)).1
          omega
        · omega
    have := hp.2 (by omega)
    omega
end Go.Proofs.Ytngdgogjlpjjpac
