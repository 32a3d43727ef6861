import Derived.Test.YtngdgogjlpjjpaeGreatGa13
import Derived.Laws.IdiomStrings
namespace Go.Proofs.YtngdgogjlpjjpaeGreat
open Go.RowKit
set_option linter.unusedVariables false
set_option linter.unusedSimpArgs false
set_option maxRecDepth 100000

/-- the bytes of a text -/
def strB (s : ByteArray) : List Int := s.data.toList.map fun b => (b.toNat : Int)
theorem strB_len (s : ByteArray) : (strB s).length = s.size := by simp [strB]
theorem strB_range (s : ByteArray) : ∀ z ∈ strB s, 0 ≤ z ∧ z ≤ 255 := by
  intro z hz
  simp only [strB, List.mem_map] at hz
  obtain ⟨b, _, rfl⟩ := hz
  have := b.toNat_lt
  omega
theorem strB_news (w : World) (s : ByteArray) (cap : Nat) (fr : Nat × Nat) (t : TypeId) (g : Nat) (hg : g = w.heap.size) : ∀ j u, ((strB s).map (Value.int .u8))[j]? = some u → (w.alloc (.cells (bytesRow s cap) t fr)).cell? ((⟨g, 0, none⟩ : Addr).add j) = some u := by
  intro j u hj
  subst hg
  have e : (Addr.add ⟨w.heap.size, 0, none⟩ j) = ⟨w.heap.size, j, none⟩ := by rw [addr_add, Nat.zero_add]
  rw [e, World.cell?_alloc_mark]
  have hl : j < s.size := by
    by_cases h : j < s.size
    · exact h
    · rw [List.getElem?_eq_none (by simp [strB]; omega)] at hj; simp at hj
  rw [← hj]
  unfold bytesRow
  rw [Array.getElem?_append_left (by simpa using hl)]
  simp [strB]
  rfl
theorem ones8 (zs : List Int) : ∀ u ∈ zs.map (Value.int .u8), u.oneCell' = true := by
  intro u hu
  simp only [List.mem_map] at hu
  obtain ⟨z, _, rfl⟩ := hu
  rfl
theorem ob_join {w : World} {base : Nat} {v : Value} {xs ys : List Int} (hx : ∀ z ∈ xs, 0 ≤ z ∧ z ≤ 255) (hy : ∀ z ∈ ys, 0 ≤ z ∧ z ≤ 255) (h : w.ownsRow base 5 1 v (xs.length + ys.length) (xs.map (Value.int .u8) ++ ys.map (Value.int .u8))) : OB w base v (xs ++ ys) :=
  ⟨by simpa using h, fun z hz => by
    rcases List.mem_append.1 hz with h | h
    · exact hx z h
    · exact hy z h⟩
theorem ob_form {w : World} {base : Nat} {v : Value} {zs : List Int} (h : OB w base v zs) (hn : zs.length ≠ 0) : ∃ g d, v = .slice (some ⟨g, 0, none⟩) zs.length d := by
  obtain ⟨hl, ⟨h0', h1⟩ | ⟨g, cap', cur, hv, _⟩⟩ := h.1
  · exact absurd h1 hn
  · exact ⟨g, cap', hv⟩
/-- a text with its length -/
def encT (s : ByteArray) : List Int := encN s.size 1 ++ strB s
theorem encT_len (s : ByteArray) : (encT s).length = 1 + s.size := by simp [encT, encN_len, strB_len]
/-- WHAT A WRITER OF BYTES GIVES: bytes of its own. -/
def EnPost (w : World) (zs : List Int) (e : Ending) (w' : World) : Prop := ∃ g d, e = .returned (.slice (some ⟨g, 0, none⟩) zs.length d) ∧ OB w' w.heap.size (.slice (some ⟨g, 0, none⟩) zs.length d) zs ∧ Below w.heap.size w w'

set_option maxHeartbeats 1000000 in
theorem l4Text_any (s : ByteArray) (w : World) (hs : s.size ≤ 1048576) : Calls Tryz.prog 156 #[.string s] w (EnPost w (encT s)) := by
  obtain ⟨i0, hi, hz0, hz1, hz2⟩ := info_parts info8
  have hcv := fun (w : World) => run_bytes_of_string (P := Tryz.prog) w 9 41 5 s Tryz.underlying9 Tryz.underlying41 Tryz.underlying5
  have HL := hide (And.intro (encN_len s.size 1) (strB_len s))
  have HN := hide (fun w => l4Num_any s.size 1 w (Or.inl rfl) (by omega) (by omega))
  go_enter Tryz.func156, Tryz.ntmps156
  go_wp2_with fail
  refine (HN.out _).mono ?_
  rintro e w1 ⟨rfl, ho, hb⟩
  have HO := hide (fun (O : Obj) => (ho.below ((Below.refl w1.heap.size w1).drew.alloc (Nat.le_refl _) O)).1)
  have HB := hide (fun (O : Obj) => hb.drew.alloc (show w.heap.size ≤ w1.drew.heap.size from hb.size) O)
  have hbs := hb.size
  clear ho hb
  go_wp2_with (at_builtin; refine wpList_append_own _ rfl _ _ 41 rfl w.heap.size 5 i0 (.int .u8 0) 1 1 Tryz.underlying41 hi hz0 hz1 hz2 rfl (by decide) (.slice (some ⟨w.heap.size, 0, none⟩) 1 1) 1 ((encN s.size 1).map (Value.int .u8)) rfl (HO.out _) ⟨w1.heap.size, 0, none⟩ s.size _ ((strB s).map (Value.int .u8)) rfl (by rw [List.length_map, strB_len, Nat.mul_one]) (strB_news _ s _ _ _ _ rfl) (ones8 _) (by unfold maxLen; omega) (by omega) (by simp; omega) ?_; intro v' w3 hown3 hgr3 _)
  have h3 : OB w3 w.heap.size v' (encT s) := ob_join (encN_range _ _) (strB_range _) (by rw [HL.out.1, HL.out.2]; exact hown3)
  obtain ⟨g, d, rfl⟩ := ob_form h3 (by rw [encT_len]; omega)
  have hb3 := below_grown' (HB.out _) hgr3 (by simp; omega) (Nat.le_refl _)
  go_ret
  exact ⟨g, d, rfl, h3, hb3⟩

/-- words as bytes, the first k of them -/
def encW (s : Nat) (zs : List Int) (k : Nat) : List Int := (zs.take k).flatMap fun z => encN z s
theorem encW_succ (s : Nat) (zs : List Int) (k : Nat) (h : k < zs.length) : encW s zs (k + 1) = encW s zs k ++ encN (zs.getD k 0) s := by
  unfold encW
  rw [List.take_succ_eq_append_getElem h, List.flatMap_append]
  simp [List.getD_eq_getElem?_getD, h]
theorem encW_len (s : Nat) (zs : List Int) : ∀ k, k ≤ zs.length → (encW s zs k).length = k * s
  | 0, _ => by simp [encW]
  | k + 1, h => by rw [encW_succ s zs k (by omega), List.length_append, encW_len s zs k (by omega), encN_len, Nat.succ_mul]
theorem encW_range (s : Nat) (zs : List Int) (k : Nat) : ∀ z ∈ encW s zs k, 0 ≤ z ∧ z ≤ 255 := by
  intro z hz
  simp only [encW, List.mem_flatMap] at hz
  obtain ⟨x, _, hz⟩ := hz
  exact encN_range _ _ z hz
theorem app_range {xs ys : List Int} (hx : ∀ z ∈ xs, 0 ≤ z ∧ z ≤ 255) (hy : ∀ z ∈ ys, 0 ≤ z ∧ z ≤ 255) : ∀ z ∈ xs ++ ys, 0 ≤ z ∧ z ≤ 255 := fun z hz => by
  rcases List.mem_append.1 hz with h | h
  · exact hx z h
  · exact hy z h
/-- words with their count -/
def encL (zs : List Int) : List Int := encN zs.length 2 ++ encW 4 zs zs.length
theorem encL_len (zs : List Int) : (encL zs).length = 2 + zs.length * 4 := by simp [encL, encN_len, encW_len]
theorem ob_cells {w : World} {base g n cap : Nat} {zs : List Int} (h : OB w base (.slice (some ⟨g, 0, none⟩) n cap) zs) : ∀ j u, (zs.map (Value.int .u8))[j]? = some u → w.cell? ((⟨g, 0, none⟩ : Addr).add j) = some u := bs_news h.bs

set_option maxHeartbeats 2000000 in
theorem l4List_any (a : Option Addr) (n cap : Nat) (zs : List Int) (w : World) (h : IS w a n cap zs) (hn : n ≤ 1000) (hr : ∀ z ∈ zs, 0 ≤ z ∧ z ≤ 4294967295) : Calls Tryz.prog 157 #[.slice a n cap] w (EnPost w (encL zs)) := by
  obtain ⟨i0, hi, hz0, hz1, hz2⟩ := info_parts info8
  have hl := h.1
  have HN := hide (fun w => l4Num_any n 2 w (Or.inr (Or.inl rfl)) (by omega) (by omega))
  have HE := hide (show encL zs = encN n 2 ++ encW 4 zs n by unfold encL; rw [hl])
  go_enter Tryz.func157, Tryz.ntmps157
  go_wp2_with fail
  refine (HN.out _).mono ?_
  rintro e w1 ⟨rfl, ho, hb⟩
  have H1 : OB w1 w.heap.size (.slice (some ⟨w.heap.size, 0, none⟩) 2 2) (encN n 2 ++ encW 4 zs 0) := by
    have e : encN n 2 ++ encW 4 zs 0 = encN n 2 := by simp [encW]
    rw [e]; exact ho
  clear ho HN
  go_wp2
  go_loopw [3, 4] (fun x i wr => ∃ (k : Nat) (v : Value), k ≤ n ∧ i = .int .i64 k ∧ v = x ∧ OB wr w.heap.size v (encN n 2 ++ encW 4 zs k) ∧ Below w.heap.size w wr) (fun _ i _ => n - (intOf i).toNat)
  case atStart => exact ⟨0, _, Nat.zero_le _, rfl, rfl, H1, hb⟩
  case round =>
    obtain ⟨k, v, hk, rfl, rfl, hO, hB⟩ := hrel
    clear H1 hb
    by_cases hlt : k < n
    · have hlt' : (k : Int) < (n : Int) := by omega
      obtain ⟨b, off, rfl⟩ := h.addr (by omega)
      have hc := (h.below hB).at k hlt
      have hz : 0 ≤ zs.getD k 0 ∧ zs.getD k 0 ≤ 4294967295 := hr _ (by simp [List.getD_eq_getElem?_getD, show k < zs.length by omega])
      have HS := hide (show encN n 2 ++ encW 4 zs (k + 1) = (encN n 2 ++ encW 4 zs k) ++ encN (zs.getD k 0) 4 by rw [encW_succ 4 zs k (by omega), List.append_assoc])
      have HR := hide (show ∀ z ∈ encN n 2 ++ encW 4 zs k, 0 ≤ z ∧ z ≤ 255 from app_range (encN_range _ _) (encW_range _ _ _))
      have HLN : Hid ((encN n 2 ++ encW 4 zs k).length = 2 + k * 4) := by show _ = _; rw [List.length_append, encN_len, encW_len 4 zs k (by omega)]
      generalize encN n 2 ++ encW 4 zs k = out at *
      generalize zs.getD k 0 = z at *
      have HN := hide (fun w => l4Num_any z 4 w (Or.inr (Or.inr rfl)) hz.1 hz.2)
      go_wp2_with fail
      refine (HN.out _).mono ?_
      rintro e w2 ⟨rfl, ho2, hb2⟩
      have HO := hide ((hO.below hb2).1)
      have HC := hide (ob_cells ho2)
      have hB2 := hB.trans (hb2.mono hB.size)
      have hlt2 := hO.lt
      have hsz := hB.size
      have hol := HLN.out
      clear hO ho2 hb2 hc HN
      go_wp2_with (at_builtin; refine wpList_append_own _ rfl _ _ 41 rfl w.heap.size 5 i0 (.int .u8 0) 1 1 Tryz.underlying41 hi hz0 hz1 hz2 rfl (by decide) v out.length (out.map (Value.int .u8)) rfl HO.out ⟨wr.heap.size, 0, none⟩ 4 4 ((encN z 4).map (Value.int .u8)) rfl (by rw [List.length_map, encN_len]) HC.out (ones8 _) (by unfold maxLen; omega) (by omega) (by have := hB2.size; omega) ?_; intro v' w3 hown3 hgr3 _)
      have h3 : OB w3 w.heap.size v' (out ++ encN z 4) := ob_join HR.out (encN_range _ _) (by rw [encN_len]; exact hown3)
      rw [← HS.out] at h3
      have hb3 : Below w.heap.size w w3 := hB2.grown hgr3 (by have := hB2.size; omega) (fun j hj => (hlt2 j hj).1)
      go_roundw
      case rel => exact ⟨k + 1, v', by omega, by go_num, rfl, h3, hb3⟩
      case measure => simp [intOf]; omega
    · obtain rfl : k = n := by omega
      have h3 := hO
      rw [← HE.out] at h3
      obtain ⟨g, d, rfl⟩ := ob_form h3 (by rw [encL_len]; omega)
      have HX := hide h3
      clear h3 hO
      go_wp2
      go_ret
      exact ⟨g, d, rfl, HX.out, hB⟩
end Go.Proofs.YtngdgogjlpjjpaeGreat

namespace Go.Proofs.YtngdgogjlpjjpaeGreat
open Go.RowKit
set_option linter.unusedVariables false
set_option linter.unusedSimpArgs false
set_option maxRecDepth 100000

/-- WHAT A VALID MODULE'S PARTS ARE. -/
structure Vm (nm : ByteArray) (tn : Nat) (tz : List Int) (bn : Nat) (bl : List Bk) (dn : Nat) (bss : Int) (rn : Nat) (rz : List Int) (im : Nat) (ss : List ByteArray) (en : Nat) (es : List Ex) : Prop where
  n : nm.size ≤ 12
  t : tn ≤ 200
  tw : ∀ z ∈ tz, 0 ≤ z ∧ z ≤ 4294967295
  b : bn ≤ 4
  bw : ∀ i, i < bl.length → (bl.getD i zB).2.1 ≤ 64 ∧ ∀ z ∈ (bl.getD i zB).2.2.2, 0 ≤ z ∧ z ≤ 4294967295
  d : dn ≤ 512
  s : 0 ≤ bss ∧ bss ≤ 512
  r : rn ≤ 16
  rw : ∀ i, i < rn → 0 ≤ rz.getD i 0 ∧ rz.getD i 0 ≤ 512
  i : im ≤ 16
  iw : ∀ i, i < im → (ss.getD i zS).size ≤ 25
  e : en ≤ 16
  ew : ∀ i, i < en → (es.getD i zE).1.size ≤ 12 ∧ -1 ≤ (es.getD i zE).2.1 ∧ (es.getD i zE).2.1 ≤ 4 ∧ 0 ≤ (es.getD i zE).2.2 ∧ (es.getD i zE).2.2 ≤ 200
theorem wds_all {zs : List Int} (h : wds zs = true) : ∀ z ∈ zs, 0 ≤ z ∧ z ≤ 4294967295 := fun z hz => by
  unfold wds at h
  rw [List.all_eq_true] at h
  simpa using h z hz
theorem nmo_size {s : ByteArray} (h : nmo s = true) : s.size ≤ 12 := by
  unfold nmo at h
  simp at h
  omega
theorem full_size {s : ByteArray} (h : full s = true) : s.size ≤ 25 := by
  unfold full at h
  simp only [Bool.and_eq_true, decide_eq_true_eq] at h
  obtain ⟨h0, h1, h2⟩ := h
  have a1 := nmo_size h1
  have a2 := nmo_size h2
  have hd := dot_range s
  unfold cutA at a1
  unfold cutB at a2
  simp only [ByteArray.size_extract] at a1 a2
  omega
theorem rng_all {f : Nat → Bool} {n : Nat} (h : (List.range n).all f = true) (i : Nat) (hi : i < n) : f i = true := by
  rw [List.all_eq_true] at h
  exact h i (by simpa using hi)
theorem vm_of_mdo {nm : ByteArray} {tn : Nat} {tz : List Int} {bn : Nat} {bl : List Bk} {dn : Nat} {bss : Int} {rn : Nat} {rz : List Int} {im : Nat} {ss : List ByteArray} {en : Nat} {es : List Ex} (hbl : bl.length = bn) (h : mdo nm tn tz bn bl dn bss rn rz im ss en es = 0) : Vm nm tn tz bn bl dn bss rn rz im ss en es := by
  unfold mdo at h
  by_cases c1 : nmo nm = false
  · rw [if_pos c1] at h; simp at h
  rw [if_neg c1] at h
  by_cases c2 : cdo tn tz bn bl = false
  · rw [if_pos c2] at h; simp at h
  rw [if_neg c2] at h
  by_cases c3 : 512 < dn ∨ bss < 0 ∨ 512 < bss
  · rw [if_pos c3] at h; simp at h
  rw [if_neg c3] at h
  by_cases c4 : rlo rn rz dn = false
  · rw [if_pos c4] at h; simp at h
  rw [if_neg c4] at h
  by_cases c5 : imo im ss = false
  · rw [if_pos c5] at h; simp at h
  rw [if_neg c5] at h
  by_cases c6 : exo tn bn bl en es = false
  · rw [if_pos c6] at h; simp at h
  simp only [Bool.not_eq_false] at c1 c2 c4 c5 c6
  unfold cdo at c2
  unfold rlo at c4
  unfold imo at c5
  unfold exo at c6
  simp only [Bool.and_eq_true, decide_eq_true_eq] at c2 c4 c5 c6
  obtain ⟨⟨t1, t2⟩, t3, t4⟩ := c2
  have hb : ∀ i, i < bl.length → (bl.getD i zB).2.1 ≤ 64 ∧ ∀ z ∈ (bl.getD i zB).2.2.2, 0 ≤ z ∧ z ≤ 4294967295 := fun i hi => by
    rw [List.all_eq_true] at t4
    have hm : bl.getD i zB ∈ bl := by simp [List.getD_eq_getElem?_getD, hi]
    have := t4 _ hm
    unfold bko at this
    simp only [Bool.and_eq_true, decide_eq_true_eq] at this
    exact ⟨this.1.2, wds_all this.2⟩
  refine ⟨nmo_size c1, t1, wds_all t3, t2, hb, by omega, by omega, c4.1, fun i hi => ?_, c5.1, fun i hi => full_size (rng_all c5.2 i hi), c6.1, fun i hi => ?_⟩
  · have := rng_all c4.2 i hi
    unfold rlk at this
    simp only [Bool.and_eq_true, decide_eq_true_eq] at this
    omega
  · have := rng_all c6.2 i hi
    unfold ex1 at this
    simp only [Bool.and_eq_true, decide_eq_true_eq] at this
    obtain ⟨⟨n1, a1, a2⟩, _⟩ := this
    have n2 := nmo_size n1
    have hp : pcn tn bn bl (es.getD i zE).2.1 ≤ 200 ∧ (0 < pcn tn bn bl (es.getD i zE).2.1 → -1 ≤ (es.getD i zE).2.1 ∧ (es.getD i zE).2.1 ≤ 4) := by
      unfold pcn
      split
      · omega
      · split
        · next h1 h2 =>
          have := (hb (es.getD i zE).2.1.toNat (by omega)).1
          omega
        · omega
    have := hp.2 (by omega)
    omega
end Go.Proofs.YtngdgogjlpjjpaeGreat

namespace Go.Proofs.YtngdgogjlpjjpaeGreat
open Go.RowKit
set_option linter.unusedVariables false
set_option linter.unusedSimpArgs false
set_option maxRecDepth 100000

def clG (t : Tg) : List Value := [.int .i64 t.1, .int .i64 t.2.1, .int .i64 t.2.2]
theorem infoG : (Tryz.prog.info? 71).map (fun i => (i.zero, i.size, i.bytes)) = some (some (.agg #[.int .i64 0, .int .i64 0, .int .i64 0]), 3, 24) := by kernel_rfl
theorem og_new' {α : Type} (t : TypeId) (sz : Nat) (f : α → List Value) (w : World) (base : Nat) (hb : base ≤ w.heap.size) : OG t sz f (w.alloc (.cells #[] t)) base (.slice (some ⟨w.heap.size, 0, none⟩) 0 0) [] :=
  ⟨by simp, .inr ⟨w.heap.size, 0, #[], rfl, hb, heap_alloc_new w _, Nat.le_refl _, by unfold maxLen; omega, by simp, by simp⟩⟩
theorem below_gr {a W W' : World} {row : Option Nat} (h : Below a.heap.size a W) (hg : W.grownBy W' row) (hr : ∀ k, row = some k → a.heap.size ≤ k) : Below a.heap.size a W' :=
  below_turn h ⟨hg.os, hg.tape, hg.output, hg.size, fun j hj (hs : ¬ row = some j) => hg.block j hj (fun e => hs e.symm)⟩ hr h.size
theorem blk_grown {W W' : World} {row : Option Nat} {k : Nat} {cs : Array Value} {t : TypeId} (h : Blk W k cs t) (hg : W.grownBy W' row) (hr : some k ≠ row) : Blk W' k cs t :=
  turn_blk (S := fun j => row = some j) ⟨hg.os, hg.tape, hg.output, hg.size, fun j hj hs => hg.block j hj (fun e => hs e.symm)⟩ h (fun e => hr e.symm)
/-- the targets found so far -/
def tgN (ps : List PMod) (P : PMod) (m : Nat) : List Tg := (List.range m).map fun i => (tgOf ps (P.ss.getD i zS)).getD zT
theorem tgN_len (ps : List PMod) (P : PMod) (m : Nat) : (tgN ps P m).length = m := by simp [tgN]
theorem tgN_succ (ps : List PMod) (P : PMod) (m : Nat) {t : Tg} (h : tgOf ps (P.ss.getD m zS) = some t) : tgN ps P (m + 1) = tgN ps P m ++ [t] := by
  simp only [tgN, List.range_succ, List.map_append, List.map_cons, List.map_nil, h, Option.getD_some]
theorem tgN_all (ps : List PMod) (P : PMod) : tgN ps P P.ss.length = tgs ps P := rfl
/-- what ModuleOk's yes says of the numbers -/
theorem vld_en {P : PMod} (h : mdoP P = 0) : P.es.length ≤ 16 ∧ P.ss.length ≤ 16 ∧ P.tz.length ≤ 200 ∧ P.bl.length ≤ 4 ∧ P.dz.length ≤ 512 ∧ 0 ≤ P.bss ∧ P.bss ≤ 512 ∧ ∀ k, k < P.bl.length → (P.bl.getD k []).length ≤ 64 := by
  unfold mdoP at h
  have V := vm_of_mdo (by simp [bkOf]) h
  refine ⟨V.e, V.i, V.t, V.b, V.d, V.s.1, V.s.2, fun k hk => ?_⟩
  have := (V.bw k (by simp [bkOf]; exact hk)).1
  simpa [bkOf, List.getD_eq_getElem?_getD, hk] using this
theorem MSD.es {w : World} {a : Option Addr} {n cap : Nat} {ms : List Md} (h : MSD w a n cap ms) (hv : vlds (pmS ms)) : ∀ i, i < n → ES w (ms.getD i zMd).ea (ms.getD i zMd).en (ms.getD i zMd).ec (ms.getD i zMd).es ∧ (ms.getD i zMd).en ≤ 1048576 := fun i hi => by
  have hl := h.s.1
  have e := (h.d i hi).e
  refine ⟨e, ?_⟩
  have h1 := (vld_en (hv i (by rw [pmS_len]; omega))).1
  rw [pmS_at (by omega)] at h1
  have h2 : (ms.getD i zMd).pm.es.length = (ms.getD i zMd).en := e.1
  omega
theorem MSD.resS {w : World} {a : Option Addr} {n cap : Nat} {ms : List Md} (h : MSD w a n cap ms) (hv : vlds (pmS ms)) (hn : n ≤ 4) (s : ByteArray) (hs : s.size ≤ 1048576) : Calls Tryz.prog 220 #[.slice a n cap, .string s] w fun e w' => e = .returned (tgV (tgOf (pmS ms) s)) ∧ Below w.heap.size w w' := by
  have := sResolve_any a n cap ms s w h.s (by omega) hs (h.es hv)
  rw [rsv_tg h.s.1 (fun i hi => (h.d i hi).e.1)] at this
  exact this
theorem MSD.resI {w : World} {a : Option Addr} {n cap : Nat} {ms : List Md} (h : MSD w a n cap ms) (hv : vlds (pmS ms)) (hn : n ≤ 4) (s : ByteArray) (hs : s.size ≤ 1048576) : Calls Tryz.prog 228 #[.slice a n cap, .string s] w fun e w' => e = .returned (tgV (tgOf (pmS ms) s)) ∧ Below w.heap.size w w' := by
  have := iResolve_any a n cap ms s w h.s (by omega) hs (h.es hv)
  rw [rsv_tg h.s.1 (fun i hi => (h.d i hi).e.1)] at this
  exact this
def tgBox (o : Option Tg) : Array Value := #[.int .i64 (o.getD zT).1, .int .i64 (o.getD zT).2.1, .int .i64 (o.getD zT).2.2]

set_option maxHeartbeats 4000000 in
theorem l5Targets_any (a : Option Addr) (n cap : Nat) (ms : List Md) (M : Md) (w : World) (h : MSD w a n cap ms) (hv : vlds (pmS ms)) (hn : n ≤ 4) (hM : M.md w) (hok : mdoP M.pm = 0) :
    Calls Tryz.prog 160 #[.slice a n cap, .agg #[.string M.nm, .slice M.ta M.tn M.tc, .slice M.ba M.bn M.bc, .slice M.da M.dn M.dc, .int .i64 M.bss, .slice M.ra M.rn M.rc, .slice M.ia M.im M.ic, .slice M.ea M.en M.ec]] w fun e w' => Below w.heap.size w w' ∧ ((¬ tgOk (pmS ms) M.pm ∧ ∃ v, e = .returned (.tuple #[v, .bool false])) ∨ (tgOk (pmS ms) M.pm ∧ ∃ a c, e = .returned (.tuple #[.slice a (tgs (pmS ms) M.pm).length c, .bool true]) ∧ OG 71 3 clG w' w.heap.size (.slice a (tgs (pmS ms) M.pm).length c) (tgs (pmS ms) M.pm))) := by
  obtain ⟨iG, hi, hz0, hz1, hz2⟩ := info_parts infoG
  have hA : Below w.heap.size w (w.alloc (.cells #[.string M.nm, .slice M.ta M.tn M.tc, .slice M.ba M.bn M.bc, .slice M.da M.dn M.dc, .int .i64 M.bss, .slice M.ra M.rn M.rc, .slice M.ia M.im M.ic, .slice M.ea M.en M.ec] 104)) := (Below.refl _ _).alloc (Nat.le_refl _) _
  have k0 := Blk.new w #[.string M.nm, .slice M.ta M.tn M.tc, .slice M.ba M.bn M.bc, .slice M.da M.dn M.dc, .int .i64 M.bss, .slice M.ra M.rn M.rc, .slice M.ia M.im M.ic, .slice M.ea M.en M.ec] 104
  have him : M.im ≤ 16 := by have h1 := (vld_en hok).2.1; have h2 : M.pm.ss.length = M.im := hM.i.1; omega
  have hil : M.pm.ss.length = M.im := hM.i.1
  have HS := hide (fun (W : World) (hb : Below w.heap.size w W) (s : ByteArray) (hs : s.size ≤ 1048576) => (h.below hb).resS hv hn s hs)
  have HI := hide hM.i
  have O0 := og_new' 71 3 clG (w.alloc (.cells #[.string M.nm, .slice M.ta M.tn M.tc, .slice M.ba M.bn M.bc, .slice M.da M.dn M.dc, .int .i64 M.bss, .slice M.ra M.rn M.rc, .slice M.ia M.im M.ic, .slice M.ea M.en M.ec] 104)) w.heap.size hA.size
  have hA2 := hA.trans (((Below.refl _ (w.alloc (.cells #[.string M.nm, .slice M.ta M.tn M.tc, .slice M.ba M.bn M.bc, .slice M.da M.dn M.dc, .int .i64 M.bss, .slice M.ra M.rn M.rc, .slice M.ia M.im M.ic, .slice M.ea M.en M.ec] 104))).alloc (Nat.le_refl _) (.cells #[] 71)).mono hA.size)
  have k1 := k0.alloc (.cells #[] 71)
  simp only [World.size_alloc] at O0
  have HP := hide (And.intro O0 (And.intro hA2 k1))
  clear O0 hA hA2 k0 k1 h hM hok
  go_enter Tryz.func160, Tryz.ntmps160
  go_wp2_with fail
  go_loopw [6, 7] (fun x i wr => ∃ m : Nat, m ≤ M.im ∧ i = .int .i64 m ∧ (∀ j, j < m → (tgOf (pmS ms) (M.pm.ss.getD j zS)).isSome = true) ∧ OG 71 3 clG wr w.heap.size x (tgN (pmS ms) M.pm m) ∧ Below w.heap.size w wr ∧ Blk wr w.heap.size #[.string M.nm, .slice M.ta M.tn M.tc, .slice M.ba M.bn M.bc, .slice M.da M.dn M.dc, .int .i64 M.bss, .slice M.ra M.rn M.rc, .slice M.ia M.im M.ic, .slice M.ea M.en M.ec] 104) (fun _ i _ => M.im - (intOf i).toNat)
  case atStart => exact ⟨0, Nat.zero_le _, rfl, fun j hj => absurd hj (by omega), HP.out.1, HP.out.2.1, HP.out.2.2⟩
  case round =>
    clear HP
    obtain ⟨m, hm, rfl, hs, O, B, k⟩ := hrel
    have q6 : wr.cell? ⟨w.heap.size, 6, none⟩ = some (.slice M.ia M.im M.ic) := k.cell 6
    obtain ⟨a', c', rfl⟩ := og_shape O
    rw [tgN_len] at *
    by_cases hlt : m < M.im
    · have hlt' : (m : Int) < (M.im : Int) := by omega
      obtain ⟨_, _, hsz, hcs, _⟩ := HI.out
      obtain ⟨b, off, hia, hc⟩ := hcs (by omega)
      have c0 := ((B.cell (World.block_lt_of_cell? w _ (hc m hlt))).trans (hc m hlt))
      have hss : (M.ss.getD m zS).size ≤ 1048576 := hsz _ (by have := HI.out.1; simp [List.getD_eq_getElem?_getD, show m < M.ss.length by omega])
      have HR := hide (HS.out wr B (M.ss.getD m zS) hss)
      rw [hia] at q6
      clear hia
      have HQ := hide (And.intro O (And.intro B k))
      have HSS := hide hs
      have HTS := hide (fun t (h : tgOf (pmS ms) (M.ss.getD m zS) = some t) => tgN_succ (ps := pmS ms) (P := M.pm) m h)
      have HBAD := hide (fun (h : tgOf (pmS ms) (M.ss.getD m zS) = none) => (show ¬ tgOk (pmS ms) M.pm from fun hk => by have := hk m (by rw [hil]; exact hlt); rw [show M.pm.ss.getD m zS = M.ss.getD m zS from rfl, h] at this; cases this))
      have HGO := hide (fun t (h : tgOf (pmS ms) (M.ss.getD m zS) = some t) => (show ∀ j, j < m + 1 → (tgOf (pmS ms) (M.pm.ss.getD j zS)).isSome = true from fun j hj => by
        by_cases e : j = m
        · subst e; rw [show M.pm.ss.getD j zS = M.ss.getD j zS from rfl, h]; rfl
        · exact HSS.out j (by omega)))
      generalize M.ss.getD m zS = str at *
      clear O B k hs hc hsz hcs HI HSS
      go_wp2_with fail
      refine HR.out.mono ?_
      rintro e w1 ⟨rfl, hb1⟩
      obtain ⟨O, B, k⟩ := HQ.out
      have B1 := B.trans (hb1.mono B.size)
      cases ho : tgOf (pmS ms) str with
      | none =>
        have HF := hide (And.intro (B1.trans (((Below.refl _ w1).alloc (Nat.le_refl _) (.cells #[.int .i64 0, .int .i64 0, .int .i64 0] 71)).mono B1.size)) (HBAD.out ho))
        clear O B k hb1 B1 HQ HR HTS HBAD HGO q6 c0
        unfold tgV
        go_wp2
        go_ret2
        exact ⟨HF.out.1, .inl ⟨HF.out.2, _, rfl⟩⟩
      | some t =>
        obtain ⟨t1, t2, t3⟩ := t
        have al1 : Below w1.heap.size w1 (w1.alloc (.cells #[.int .i64 t1, .int .i64 t2, .int .i64 t3] 71)) := (Below.refl _ _).alloc (Nat.le_refl _) _
        have hs1 : (w1.alloc (.cells #[.int .i64 t1, .int .i64 t2, .int .i64 t3] 71)).heap.size = w1.heap.size + 1 := by simp
        have k1 := Blk.new w1 #[.int .i64 t1, .int .i64 t2, .int .i64 t3] 71
        have O2 := (O.below hb1).below al1
        have B2 := B1.trans (al1.mono B1.size)
        have kk2 := (k.below hb1).below al1
        have HT2 := hide (HTS.out _ ho)
        have HG2 := hide (HGO.out _ ho)
        obtain ⟨x0, x1, x2, _⟩ := k1.three
        clear O B k hb1 B1 HQ HR HTS HBAD HGO q6 c0 al1
        generalize hW1 : w1.alloc (.cells #[.int .i64 t1, .int .i64 t2, .int .i64 t3] 71) = W1 at *
        have HOW := hide (show (W1.alloc (.cells #[.int .i64 t1, .int .i64 t2, .int .i64 t3] 71)).ownsRow w.heap.size 71 3 (.slice a' m c') m ((tgN (pmS ms) M.pm m).flatMap clG) by have := O2.below ((Below.refl _ _).alloc (Nat.le_refl _) (.cells #[.int .i64 t1, .int .i64 t2, .int .i64 t3] 71)); unfold OG at this; rw [tgN_len] at this; exact this)
        have HX := hide (And.intro O2 (And.intro B2 kk2))
        have hsB := B2.size
        rw [← hW1] at x0 x1 x2
        have HW1 := hide hW1
        clear O2 B2 kk2 k1 hW1
        unfold tgV
        go_wp2_with (at_builtin; rw [HW1.out]; refine wpList_append_own _ rfl _ _ 189 rfl w.heap.size 71 iG (.agg #[.int .i64 0, .int .i64 0, .int .i64 0]) 3 24 Tryz.underlying189 hi hz0 hz1 hz2 rfl (by decide) (.slice a' m c') m ((tgN (pmS ms) M.pm m).flatMap clG) rfl HOW.out ⟨w1.heap.size + 1, 0, none⟩ 1 1 (clG (t1, t2, t3)) rfl rfl (by rw [← hs1]; exact cells_new W1 _ _ (clG (t1, t2, t3)) rfl) (by intro u hu; simp [clG] at hu; rcases hu with rfl | rfl | rfl <;> rfl) (by unfold maxLen; omega) (by omega) (by simp; omega) ?_; intro v' w4 hown hgr _)
        obtain ⟨O2, B2, kk2⟩ := HX.out
        have al2 : Below W1.heap.size W1 (W1.alloc (.cells #[.int .i64 t1, .int .i64 t2, .int .i64 t3] 71)) := (Below.refl _ _).alloc (Nat.le_refl _) _
        have hrow : ∀ j, (Value.slice a' m c').ownBlock = some j → w.heap.size ≤ j := fun j hj => (O2.lt j hj).1
        have O4 : OG 71 3 clG w4 w.heap.size v' (tgN (pmS ms) M.pm (m + 1)) := by
          unfold OG
          rw [tgN_len, HT2.out, List.flatMap_append, List.flatMap_singleton]
          exact hown
        have B4 := below_gr (B2.trans (al2.mono B2.size)) hgr hrow
        have k4 := blk_grown (kk2.below al2) hgr (fun e => by
          obtain ⟨cs, hk⟩ := own_kind O2 e.symm
          exact absurd (blk_kind kk2 hk) (by decide))
        have HF := hide (And.intro HG2.out (And.intro O4 (And.intro B4 k4)))
        clear O2 B2 kk2 al2 hrow O4 B4 k4 hown hgr HX HOW x0 x1 x2
        go_roundw
        case rel => exact ⟨m + 1, by omega, by go_num, HF.out.1, HF.out.2.1, HF.out.2.2.1, HF.out.2.2.2⟩
        case measure => simp [intOf]; omega
    · have hlt' : ¬ (m : Int) < (M.im : Int) := by omega
      have HK := hide (show tgOk (pmS ms) M.pm from fun j hj => hs j (by omega))
      have HX := hide (And.intro B O)
      have HEQ := hide (show tgN (pmS ms) M.pm m = tgs (pmS ms) M.pm by rw [← tgN_all, hil, show m = M.im by omega])
      have HLN := hide (show m = (tgs (pmS ms) M.pm).length by rw [← HEQ.out, tgN_len])
      clear B O k hs
      go_wp2
      go_ret2
      refine ⟨HX.out.1, .inr ⟨HK.out, a', c', by rw [← HLN.out]; rfl, ?_⟩⟩
      have := HX.out.2
      rw [HEQ.out] at this
      rw [← HLN.out]
      exact this
end Go.Proofs.YtngdgogjlpjjpaeGreat
