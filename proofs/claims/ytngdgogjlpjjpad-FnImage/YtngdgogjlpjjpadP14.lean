import Derived.Test.YtngdgogjlpjjpadP06
import Derived.Test.YtngdgogjlpjjpadP07
import Derived.Test.YtngdgogjlpjjpadP08
import Derived.Test.YtngdgogjlpjjpadP09
import Derived.Test.YtngdgogjlpjjpadP10
import Derived.Test.YtngdgogjlpjjpadP13
namespace Go.Proofs.Ytngdgogjlpjjpad
open Go.RowKit
set_option linter.unusedVariables false
theorem l3Ins_fn (zs : List Int) (k : Nat) (hz : ∀ j, 0 ≤ zs.getD j 0 ∧ zs.getD j 0 ≤ 255) :
    ∃ (o d x i : Int) (k' : Nat), (-1 ≤ o ∧ o ≤ 64 ∧ -1 ≤ d ∧ d ≤ 10 ∧ -1 ≤ x ∧ x ≤ 10 ∧ -1 ≤ i ∧ i ≤ 65536) ∧ ∀ (r : Nat) (a : Option Addr) (n c : Nat) (w : World) (h : Rdr w r a n c zs k) (hcode : n ≠ 0 → ∀ b off, a = some ⟨b, off, none⟩ → b < w.heap.size), Calls Try.prog 116 #[.pointer (some ⟨r, 0, none⟩)] w (InsDr w r a n c zs o d x i k') := by
  obtain ⟨v1, E1, z0, z0'⟩ := draw_of hz k
  obtain ⟨op, ho1, ho2, hop⟩ := opTab_at (v1 % 25).toNat (by omega)
  have HOP := hide hop
  clear hop
  refine ⟨op, ?_⟩
  by_cases hu3 : us op = 3
  · exact l3Ins_u3 zs k hz v1 E1 z0 z0' op ho1 ho2 hu3 HOP
  by_cases hu0 : us op = 0
  · exact l3Ins_u0 zs k hz v1 E1 z0 z0' op ho1 ho2 hu0 HOP
  rcases op_cases op with h' | h' | rfl | rfl | rfl | rfl | rfl | rfl | rfl | rfl | rfl | rfl | rfl | rfl | rfl | rfl | rfl | rfl | rfl | rfl | rfl | rfl | rfl | rfl | rfl | rfl | rfl
  · omega
  · omega
  · exact absurd (by decide) hu0
  · exact l3Ins_2 zs k hz v1 E1 z0 z0' HOP
  · exact l3Ins_3 zs k hz v1 E1 z0 z0' HOP
  · exact absurd (by decide) hu3
  · exact absurd (by decide) hu3
  · exact l3Ins_6 zs k hz v1 E1 z0 z0' HOP
  · exact absurd (by decide) hu3
  · exact absurd (by decide) hu3
  · exact absurd (by decide) hu3
  · exact absurd (by decide) hu3
  · exact absurd (by decide) hu3
  · exact absurd (by decide) hu3
  · exact absurd (by decide) hu3
  · exact l3Ins_14 zs k hz v1 E1 z0 z0' HOP
  · exact l3Ins_15 zs k hz v1 E1 z0 z0' HOP
  · exact l3Ins_16 zs k hz v1 E1 z0 z0' HOP
  · exact l3Ins_17 zs k hz v1 E1 z0 z0' HOP
  · exact l3Ins_18 zs k hz v1 E1 z0 z0' HOP
  · exact l3Ins_19 zs k hz v1 E1 z0 z0' HOP
  · exact l3Ins_20 zs k hz v1 E1 z0 z0' HOP
  · exact l3Ins_21 zs k hz v1 E1 z0 z0' HOP
  · exact l3Ins_22 zs k hz v1 E1 z0 z0' HOP
  · exact l3Ins_23 zs k hz v1 E1 z0 z0' HOP
  · exact l3Ins_24 zs k hz v1 E1 z0 z0' HOP
  · exact absurd (by decide) hu0
end Go.Proofs.Ytngdgogjlpjjpad
namespace Go.Proofs.Ytngdgogjlpjjpad
open Go.RowKit
set_option linter.unusedVariables false
set_option linter.unusedSimpArgs false
set_option maxRecDepth 100000
structure Vm (nm : ByteArray) (tn : Nat) (tz : List Int) (bn : Nat) (bl : List Bk) (dn : Nat) (bss : Int) (rn : Nat) (rz : List Int) (im : Nat) (ss : List ByteArray) (en : Nat) (es : List Ex) : Prop where
  n : nm.size ≤ 12
  t : tn ≤ 200
  tw : ∀ z ∈ tz, 0 ≤ z ∧ z ≤ 4294967295
  b : bn ≤ 4
  bw : ∀ i, i < bl.length → (bl.getD i zB).2.1 ≤ 64 ∧ ∀ z ∈ (bl.getD i zB).2.2.2, 0 ≤ z ∧ z ≤ 4294967295
  d : dn ≤ 512
  s : 0 ≤ bss ∧ bss ≤ 512
  r : rn ≤ 16
  rw : ∀ i, i < rn → 0 ≤ rz.getD i 0 ∧ rz.getD i 0 ≤ 512
  i : im ≤ 16
  iw : ∀ i, i < im → (ss.getD i zS).size ≤ 25
  e : en ≤ 16
  ew : ∀ i, i < en → (es.getD i zE).1.size ≤ 12 ∧ -1 ≤ (es.getD i zE).2.1 ∧ (es.getD i zE).2.1 ≤ 4 ∧ 0 ≤ (es.getD i zE).2.2 ∧ (es.getD i zE).2.2 ≤ 200
theorem wds_all {zs : List Int} (h : wds zs = true) : ∀ z ∈ zs, 0 ≤ z ∧ z ≤ 4294967295 := fun z hz => by
  unfold wds at h
  rw [List.all_eq_true] at h
  simpa using h z hz
theorem nmo_size {s : ByteArray} (h : nmo s = true) : s.size ≤ 12 := by
  unfold nmo at h
  simp at h
  omega
theorem full_size {s : ByteArray} (h : full s = true) : s.size ≤ 25 := by
  unfold full at h
  simp only [Bool.and_eq_true, decide_eq_true_eq] at h
  obtain ⟨h0, h1, h2⟩ := h
  have a1 := nmo_size h1
  have a2 := nmo_size h2
  have hd := dot_range s
  unfold cutA at a1
  unfold cutB at a2
  simp only [ByteArray.size_extract] at a1 a2
  omega
theorem rng_all {f : Nat → Bool} {n : Nat} (h : (List.range n).all f = true) (i : Nat) (hi : i < n) : f i = true := by
  rw [List.all_eq_true] at h
  exact h i (by simpa using hi)
theorem vm_of_mdo {nm : ByteArray} {tn : Nat} {tz : List Int} {bn : Nat} {bl : List Bk} {dn : Nat} {bss : Int} {rn : Nat} {rz : List Int} {im : Nat} {ss : List ByteArray} {en : Nat} {es : List Ex} (hbl : bl.length = bn) (h : mdo nm tn tz bn bl dn bss rn rz im ss en es = 0) : Vm nm tn tz bn bl dn bss rn rz im ss en es := by
  unfold mdo at h
  by_cases c1 : nmo nm = false
  · rw [if_pos c1] at h; simp at h
  rw [if_neg c1] at h
  by_cases c2 : cdo tn tz bn bl = false
  · rw [if_pos c2] at h; simp at h
  rw [if_neg c2] at h
  by_cases c3 : 512 < dn ∨ bss < 0 ∨ 512 < bss
  · rw [if_pos c3] at h; simp at h
  rw [if_neg c3] at h
  by_cases c4 : rlo rn rz dn = false
  · rw [if_pos c4] at h; simp at h
  rw [if_neg c4] at h
  by_cases c5 : imo im ss = false
  · rw [if_pos c5] at h; simp at h
  rw [if_neg c5] at h
  by_cases c6 : exo tn bn bl en es = false
  · rw [if_pos c6] at h; simp at h
  simp only [Bool.not_eq_false] at c1 c2 c4 c5 c6
  unfold cdo at c2
  unfold rlo at c4
  unfold imo at c5
  unfold exo at c6
  simp only [Bool.and_eq_true, decide_eq_true_eq] at c2 c4 c5 c6
  obtain ⟨⟨t1, t2⟩, t3, t4⟩ := c2
  have hb : ∀ i, i < bl.length → (bl.getD i zB).2.1 ≤ 64 ∧ ∀ z ∈ (bl.getD i zB).2.2.2, 0 ≤ z ∧ z ≤ 4294967295 := fun i hi => by
    rw [List.all_eq_true] at t4
    have hm : bl.getD i zB ∈ bl := by simp [List.getD_eq_getElem?_getD, hi]
    have := t4 _ hm
    unfold bko at this
    simp only [Bool.and_eq_true, decide_eq_true_eq] at this
    exact ⟨this.1.2, wds_all this.2⟩
  refine ⟨nmo_size c1, t1, wds_all t3, t2, hb, by omega, by omega, c4.1, fun i hi => ?_, c5.1, fun i hi => full_size (rng_all c5.2 i hi), c6.1, fun i hi => ?_⟩
  · have := rng_all c4.2 i hi
    unfold rlk at this
    simp only [Bool.and_eq_true, decide_eq_true_eq] at this
    omega
  · have := rng_all c6.2 i hi
    unfold ex1 at this
    simp only [Bool.and_eq_true, decide_eq_true_eq] at this
    obtain ⟨⟨n1, a1, a2⟩, _⟩ := this
    have n2 := nmo_size n1
    have hp : pcn tn bn bl (es.getD i zE).2.1 ≤ 200 ∧ (0 < pcn tn bn bl (es.getD i zE).2.1 → -1 ≤ (es.getD i zE).2.1 ∧ (es.getD i zE).2.1 ≤ 4) := by
      unfold pcn
      split
      · omega
      · split
        · next h1 h2 =>
          have := (hb (es.getD i zE).2.1.toNat (by omega)).1
          omega
        · omega
    have := hp.2 (by omega)
    omega
end Go.Proofs.Ytngdgogjlpjjpad
