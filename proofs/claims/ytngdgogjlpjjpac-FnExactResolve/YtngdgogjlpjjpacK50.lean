import Derived.Test.YtngdgogjlpjjpacK49
import Derived.Test.YtngdgogjlpjjpacK03
import Derived.ProofKit
import Derived.OpenShut
import Derived.ShutString
import Derived.ChangeOld
namespace Go.Proofs.Ytngdgogjlpjjpac
open Go.RowKit Go.Maps
set_option linter.unusedVariables false
set_option linter.unusedSimpArgs false
set_option maxRecDepth 100000

theorem fst_congr {f g : Nat → List UInt8} {s : List UInt8} : ∀ k, (∀ i, i < k → f i = g i) → fst? f s k = fst? g s k
  | 0, _ => rfl
  | k + 1, h => by rw [fst_succ, fst_succ, fst_congr k (fun i hi => h i (by omega)), h k (by omega)]
theorem all_congr_range {f g : Nat → Bool} : ∀ n, (∀ i, i < n → f i = g i) → (List.range n).all f = (List.range n).all g
  | 0, _ => rfl
  | n + 1, h => by rw [List.range_succ, List.all_append, List.all_append, all_congr_range n (fun i hi => h i (by omega))]; simp [h n (by omega)]
/-- modules that have the same names and exports -/
def SameR (n : Nat) (ms ms' : List Md) : Prop := ∀ i, i < n → (ms'.getD i zMd).nm = (ms.getD i zMd).nm ∧ (ms'.getD i zMd).en = (ms.getD i zMd).en ∧ (ms'.getD i zMd).es = (ms.getD i zMd).es
theorem rsT_lt {n : Nat} {ms : List Md} {s : ByteArray} {i k : Nat} (h : rsT n ms s = some (i, k)) : i < n := by
  unfold rsT at h
  split at h
  · cases hf : fst? (mdNm ms) (cutA s).data.toList n with
    | none => rw [hf] at h; cases h
    | some j =>
      rw [hf] at h
      simp at h
      obtain ⟨k', h1, rfl, rfl⟩ := h
      exact fst_lt _ _ _ _ hf
  · cases h
theorem rsT_congr {n : Nat} {ms ms' : List Md} {s : ByteArray} (h : SameR n ms ms') : rsT n ms' s = rsT n ms s := by
  unfold rsT
  have e1 : tbf n ms' = tbf n ms := by
    unfold tbf
    rw [all_congr_range n (fun i hi => by rw [(h i hi).2.1])]
  have e2 : fst? (mdNm ms') (cutA s).data.toList n = fst? (mdNm ms) (cutA s).data.toList n := fst_congr n (fun i hi => by unfold mdNm; rw [(h i hi).1])
  rw [e1, e2]
  cases hf : fst? (mdNm ms) (cutA s).data.toList n with
  | none => rfl
  | some j =>
    obtain ⟨_, h2, h3⟩ := h j (fst_lt _ _ _ _ hf)
    simp only [Option.bind_some]
    rw [h2, h3]
theorem rsv_congr {n : Nat} {ms ms' : List Md} {s : ByteArray} (h : SameR n ms ms') : rsv n ms' s = rsv n ms s := by
  cases hr : rsT n ms s with
  | none => rw [rsv_none hr, rsv_none (by rw [rsT_congr h]; exact hr)]
  | some p =>
    obtain ⟨i, k⟩ := p
    obtain ⟨_, h2, h3⟩ := h i (rsT_lt hr)
    rw [rsv_some hr, rsv_some (by rw [rsT_congr h]; exact hr), h3]
theorem rsv_shape (n : Nat) (ms : List Md) (s : ByteArray) : ∃ (x y z : Int) (ok : Bool), rsv n ms s = .tuple #[.agg #[.int .i64 x, .int .i64 y, .int .i64 z], .bool ok] := by
  cases hr : rsT n ms s with
  | none => exact ⟨_, _, _, _, rsv_none hr⟩
  | some p => exact ⟨_, _, _, _, rsv_some hr⟩
theorem RowM.ms {W w : World} {c n cap : Nat} {a : Option Addr} {ms ms' : List Md} (h : RowM W c n ms ms') (hl : ms'.length = n) (hm : MS w a n cap ms) : MS W (some ⟨c, 0, none⟩) n n ms' := by
  obtain ⟨_, _, hr⟩ := h
  refine ⟨hl, hm.2.1, fun _ => ⟨c, 0, rfl, fun i hi => ?_⟩, fun i hi => copy_mt (hm.2.2.2.1 i hi) (hr i (by omega)).2, Nat.le_refl _⟩
  rw [Nat.zero_add]
  exact (hr i (by omega)).1
theorem RowM.sameR {W : World} {c n : Nat} {ms ms' : List Md} (h : RowM W c n ms ms') (hl : ms'.length = n) : SameR n ms ms' := fun i hi => by
  obtain ⟨_, _, _, _, _, _, gs, e, _⟩ := (h.2.2 i (by omega)).2
  rw [e]
  exact ⟨rfl, rfl, rfl⟩
theorem RowM.same {W W' : World} {c c' n cap : Nat} {ms x y : List Md} {a : Option Addr} {w : World} (hm : MS w a n cap ms) (h : RowM W c n ms x) (hl : x.length = n) (h' : RowM W' c' n ms y) (hl' : y.length = n) : ∀ i, i < n → Same (x.getD i zMd) (y.getD i zMd) := fun i hi =>
  same_copies (hm.2.2.2.1 i hi).b.1 (h.2.2 i (by omega)).2 (h'.2.2 i (by omega)).2
theorem RowM.exps {W w : World} {c n cap : Nat} {a : Option Addr} {ms ms' : List Md} (h : RowM W c n ms ms') (hl : ms'.length = n) (hm : MS w a n cap ms) (hs : ∀ i, i < n → (ms.getD i zMd).size ≤ 1048576) : ∀ i, i < n → ES W (ms'.getD i zMd).ea (ms'.getD i zMd).en (ms'.getD i zMd).ec (ms'.getD i zMd).es ∧ (ms'.getD i zMd).en ≤ 1048576 := fun i hi => by
  have ht := copy_mt (hm.2.2.2.1 i hi) (h.2.2 i (by omega)).2
  obtain ⟨_, e2, e3⟩ := h.sameR hl i hi
  have hz := hs i hi
  unfold Md.size mdSize at hz
  rw [← e2, ← e3] at hz
  exact ⟨ht.e.es (by omega), by omega⟩

set_option maxHeartbeats 1000000 in
theorem eqTarget_same (x y z : Int) (w : World) : Calls Try.prog 21 #[.agg #[.int .i64 x, .int .i64 y, .int .i64 z], .agg #[.int .i64 x, .int .i64 y, .int .i64 z]] w fun e w' => e = .returned (.bool true) ∧ Below w.heap.size w w' := by
  have hB : Below w.heap.size w ((w.alloc (.cells #[.int .i64 x, .int .i64 y, .int .i64 z] 38)).alloc (.cells #[.int .i64 x, .int .i64 y, .int .i64 z] 38)) := ((Below.refl _ _).alloc (Nat.le_refl _) _).alloc (by simp) _
  have hx : (x != x) = false := by simp
  have hy : (y != y) = false := by simp
  have hz : (z != z) = false := by simp
  go_enter Try.func21, Try.ntmps21
  go_wp2
  go_ret
  exact ⟨rfl, hB⟩

set_option maxHeartbeats 4000000 in
theorem exactResolve_walk (a : Option Addr) (n cap : Nat) (ms : List Md) (s : ByteArray) (w : World) (h : MS w a n cap ms) (hs0 : s.size ≤ maxLen) :
    Calls Try.prog 4 #[.slice a n cap, .string s] w fun e w' => e = .returned (.bool true) ∧ Below w.heap.size w w' := by
  unfold maxLen at hs0
  by_cases hs : (1048576 : Int) < (s.size : Int)
  · go_enter Try.func4, Try.ntmps4
    go_wp2
    go_ret
    exact ⟨rfl, Below.refl _ _⟩
  have HS := hide (fun w h => szModuleS_any a n cap ms 1048576 w h (by omega) (by omega))
  by_cases hz : 1048576 < n + upS (fun j => (ms.getD j zMd).size) n
  · rw [show szR 1048576 (n + upS (fun j => (ms.getD j zMd).size) n) = -1 by unfold szR; rw [if_pos (by omega)]] at HS
    go_enter Try.func4, Try.ntmps4
    go_wp2_with fail
    refine (HS.out _ h).mono ?_
    rintro e w1 ⟨rfl, hb1⟩
    go_wp2
    go_ret
    exact ⟨rfl, hb1⟩
  obtain ⟨L, hL⟩ : ∃ L, L = szR 1048576 (n + upS (fun j => (ms.getD j zMd).size) n) := ⟨_, rfl⟩
  rw [← hL] at HS
  have hL0 : ¬ L < 0 := by rw [hL]; unfold szR; rw [if_neg (by omega)]; omega
  clear hL
  have HZ := hide (show ∀ i, i < n → (ms.getD i zMd).size ≤ 1048576 from fun i hi => by have := upS_le (fun j => (ms.getD j zMd).size) n i hi; omega)
  have hn : n ≤ 1048576 := by omega
  have hs' : s.size ≤ 1048576 := by omega
  have HT := hide (fun w h => toModuleS_any a n cap ms w h hn HZ.out)
  clear hz
  obtain ⟨x, y, z, ok, hV⟩ := rsv_shape n ms s
  have HV := hide hV
  clear hV
  have HSP := hide (fun (c : Nat) (ms' : List Md) (W : World) (r : RowM W c n ms ms') (hl : ms'.length = n) => by
    have := sResolve_any (some ⟨c, 0, none⟩) n n ms' s W (r.ms hl h) hn hs' (r.exps hl h HZ.out)
    rw [rsv_congr (r.sameR hl), HV.out] at this
    exact this)
  have HIM := hide (fun (c : Nat) (ms' : List Md) (W : World) (r : RowM W c n ms ms') (hl : ms'.length = n) => by
    have := iResolve_any (some ⟨c, 0, none⟩) n n ms' s W (r.ms hl h) hn hs' (r.exps hl h HZ.out)
    rw [rsv_congr (r.sameR hl), HV.out] at this
    exact this)
  have hok : (ok != ok) = false := by simp
  go_enter Try.func4, Try.ntmps4
  go_wp2_with fail
  refine (HS.out _ h).mono ?_
  rintro e w1 ⟨rfl, hB1⟩
  have h1 := h.below hB1
  go_wp2_with fail
  refine (HT.out _ h1).mono ?_
  rintro e w2 ⟨rfl, ⟨m2, l2, r2⟩, hb2⟩
  have hB2 := hB1.trans (hb2.mono hB1.size)
  clear hb2 h1 hB1
  go_wp2_with fail
  refine (HSP.out _ m2 _ r2 l2).mono ?_
  rintro e w3 ⟨rfl, hb3⟩
  have hB3 := hB2.trans (hb3.mono hB2.size)
  clear hb3 hB2 r2
  have al3 : Below w3.heap.size w3 (w3.alloc (.cells #[.int .i64 x, .int .i64 y, .int .i64 z] 38)) := (Below.refl _ _).alloc (Nat.le_refl _) _
  have kA := Blk.new w3 #[.int .i64 x, .int .i64 y, .int .i64 z] 38
  have hB3 := hB3.trans (al3.mono hB3.size)
  have h3 := h.below hB3
  clear al3
  go_wp2_with fail
  refine (HT.out _ h3).mono ?_
  rintro e w4 ⟨rfl, ⟨m4, l4, r4⟩, hb4⟩
  simp only [World.size_alloc] at r4
  have kA := kA.below hb4
  have hB4 := hB3.trans (hb4.mono hB3.size)
  clear hb4 h3 hB3
  go_wp2_with fail
  refine (HIM.out _ m4 _ r4 l4).mono ?_
  rintro e w5 ⟨rfl, hb5⟩
  have kA := kA.below hb5
  have r5 := r4.below hb5
  have hB5 := hB4.trans (hb5.mono hB4.size)
  clear hb5 hB4 r4
  have al5 : Below w5.heap.size w5 (w5.alloc (.cells #[.int .i64 x, .int .i64 y, .int .i64 z] 38)) := (Below.refl _ _).alloc (Nat.le_refl _) _
  have kB := Blk.new w5 #[.int .i64 x, .int .i64 y, .int .i64 z] 38
  have kA := kA.below al5
  have r5 := r5.below al5
  have hB5 := hB5.trans (al5.mono hB5.size)
  clear al5
  obtain ⟨q1, q2, q3, q4⟩ := kA.three
  obtain ⟨p1, p2, p3, p4⟩ := kB.three
  go_wp2_with fail
  refine (eqTarget_same x y z _).mono ?_
  rintro e w6 ⟨rfl, hb6⟩
  have r6 := r5.below hb6
  have hB6 := hB5.trans (hb6.mono hB5.size)
  clear hb6 hB5 r5 kA kB q1 q2 q3 q4 p1 p2 p3 p4
  have h6 := h.below hB6
  go_wp2_with fail
  refine (HT.out _ h6).mono ?_
  rintro e w7 ⟨rfl, ⟨m7, l7, r7⟩, hb7⟩
  have r6 := r6.below hb7
  have hB7 := hB6.trans (hb7.mono hB6.size)
  clear hb7 h6 hB6
  go_wp2_with fail
  refine (eqModuleS_same _ _ n n n m4 m7 _ (r6.ms l4 h) (r7.ms l7 h) (RowM.same h r6 l4 r7 l7)).mono ?_
  rintro e w8 ⟨rfl, hb8⟩
  have hB8 := hB7.trans (hb8.mono hB7.size)
  go_wp2
  go_ret
  exact ⟨rfl, hB8⟩
end Go.Proofs.Ytngdgogjlpjjpac

namespace Go.Proofs.Ytngdgogjlpjjpac
open Go.ChangeShapes Go.WideShapes Go.ChangeAt Go.RowKit
set_option linter.unusedVariables false

theorem own : ownKnob Try.prog.godebug = none := by kernel_rfl
theorem laidOut : laidOutB Try.prog = true := by kernel_rfl

theorem wf_u8 {z : Int} (h : (Lit.int .u8 z).wf = true) : 0 ≤ z ∧ z ≤ 255 := by
  simp [Lit.wf, IntKind.min, IntKind.max, IntKind.signed, IntKind.bits] at h
  omega

theorem wf_i64 {z : Int} (h : (Lit.int .i64 z).wf = true) : -9223372036854775808 ≤ z ∧ z ≤ 9223372036854775807 := by
  simp [Lit.wf, IntKind.min, IntKind.max, IntKind.signed, IntKind.bits] at h
  omega

set_option maxRecDepth 100000 in
theorem bs_of_trod {H : Type} {enc : TypeId × Value → H} {w : World} {base : Nat} {held : Bool} {fuel : Nat} {cs : List Value} {x : DataW H × List MemPlace}
    (h : DataW.trod enc Try.prog w base (fun _ => true) held fuel 22 cs = some x) : ∃ a n cap zs, cs = [.slice a n cap] ∧ BS w a n cap zs := by
  rcases open_ints Try.underlying22 Try.underlying5 (by kernel_rfl) h with ⟨hcs, _⟩ | ⟨x, l, c, zs, hcs, _, hl, hm, hz, _, hcell, hwz⟩
  · exact ⟨none, 0, 0, [], hcs, rfl, Nat.zero_le _, by simp, fun h => absurd rfl h, Nat.le_refl _⟩
  · simp at hz
    refine ⟨some x, l, c, zs.take l, hcs, by simp; omega, by omega, fun z hz' => wf_u8 (hwz z (List.mem_of_mem_take hz')), fun hl0 => ?_, hl⟩
    obtain ⟨b, off, spot⟩ := x
    have hspot : spot = none := by simpa [Addr.add] using World.cell?_spot (hcell 0 (by omega))
    subst hspot
    refine ⟨b, off, rfl, fun i hi => ?_⟩
    have := hcell i (by omega)
    have ea : (Addr.add ⟨b, off, none⟩ i) = ⟨b, off + i, none⟩ := by
      simp only [Addr.add]
      split
      · next h => subst h; rfl
      · rfl
    rw [ea] at this
    rw [this]
    simp [List.getD_eq_getElem?_getD, hi]

set_option maxRecDepth 100000 in
theorem open_bytes {H : Type} {enc : TypeId × Value → H} {w : World} {base b0 : Nat} {held : Bool} {r : Reach} {v : Value} {d : DataW H} {p : List MemPlace}
    (hv : Value.okWide Try.prog w r b0 22 v) (h : DataW.Trod enc Try.prog w base (fun _ => true) held 22 v d p) :
    ∃ a n cap zs, v = .slice a n cap ∧ BS w a n cap zs := by
  obtain ⟨a0, len0, cap0, rfl⟩ := okWide_slice Try.underlying22 hv
  obtain ⟨fuel, hf⟩ := h
  obtain ⟨a, n, cap, zs, hcs, hb⟩ := bs_of_trod hf
  simp [Value.cells] at hcs
  obtain ⟨rfl, rfl, rfl⟩ := hcs
  exact ⟨_, _, _, zs, rfl, hb⟩

end Go.Proofs.Ytngdgogjlpjjpac
