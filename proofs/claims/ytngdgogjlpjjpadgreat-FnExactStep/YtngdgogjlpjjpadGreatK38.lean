import Derived.Test.YtngdgogjlpjjpadGreatK37
import Derived.Test.YtngdgogjlpjjpadGreatK31
namespace Go.Proofs.YtngdgogjlpjjpadGreat
open Go.RowKit
set_option linter.unusedVariables false
set_option linter.unusedSimpArgs false
set_option maxRecDepth 100000

/-- THE WORLD AS THE DOCUMENT'S Step HOLDS IT: the boxes of its arguments, its results' blocks, its core at A, its memory at B. -/
structure Ss (w W : World) (A B : Nat) (pc : Int) (cb co n cc : Nat) (zs : List Int) (b1 o1 b2 o2 b3 o3 n1 c1 n2 c2 n3 c3 : Nat) (x1 x2 x3 : List Int) (ra : Option Addr) (rn rc : Nat) (rs : List Rg) (pv : Int) (cv : Value) (zv : List Int) (v1 v2 v3 : Value) (y1 y2 y3 : List Int) : Prop where
  below : Below w.heap.size w W
  k0 : Blk W (w.heap.size) #[.int .i64 pc, .slice (some ⟨cb, co, none⟩) n cc] 58
  k1 : Blk W (w.heap.size + 1) #[.slice (some ⟨b1, o1, none⟩) n1 c1, .slice (some ⟨b2, o2, none⟩) n2 c2, .slice (some ⟨b3, o3, none⟩) n3 c3] 38
  k2 : Blk W (w.heap.size + 1 + 1) #[.int .i64 0, .slice none 0 0] 58
  k3 : Blk W (w.heap.size + 1 + 1 + 1) #[.slice none 0 0, .slice none 0 0, .slice none 0 0] 38
  kA : Blk W A #[.int .i64 pv, cv] 58
  kB : Blk W B #[v1, v2, v3] 38
  hA : w.heap.size + 1 + 1 + 1 < A
  hAB : A < B
  oc : OI W w.heap.size cv zv
  om : Own3 W w.heap.size v1 v2 v3 y1 y2 y3
  ic : IS W (some ⟨cb, co, none⟩) n cc zs
  i1 : BS W (some ⟨b1, o1, none⟩) n1 c1 x1
  i2 : BS W (some ⟨b2, o2, none⟩) n2 c2 x2
  i3 : BS W (some ⟨b3, o3, none⟩) n3 c3 x3
  rs : RS W ra rn rc rs
theorem Ss.step {w W W' : World} {A B : Nat} {pc : Int} {cb co n cc : Nat} {zs : List Int} {b1 o1 b2 o2 b3 o3 n1 c1 n2 c2 n3 c3 : Nat} {x1 x2 x3 : List Int} {ra : Option Addr} {rn rc : Nat} {rs : List Rg} {pv : Int} {cv : Value} {zv : List Int} {v1 v2 v3 : Value} {y1 y2 y3 : List Int} (h : Ss w W A B pc cb co n cc zs b1 o1 b2 o2 b3 o3 n1 c1 n2 c2 n3 c3 x1 x2 x3 ra rn rc rs pv cv zv v1 v2 v3 y1 y2 y3) (b : Below W.heap.size W W') : Ss w W' A B pc cb co n cc zs b1 o1 b2 o2 b3 o3 n1 c1 n2 c2 n3 c3 x1 x2 x3 ra rn rc rs pv cv zv v1 v2 v3 y1 y2 y3 :=
  ⟨h.below.trans (b.mono h.below.size), h.k0.below b, h.k1.below b, h.k2.below b, h.k3.below b, h.kA.below b, h.kB.below b, h.hA, h.hAB, h.oc.below b, own3_below h.om b, h.ic.below b, h.i1.below b, h.i2.below b, h.i3.below b, h.rs.below b⟩
theorem st_find {w W X : World} {R base : Nat} {pc : Int} {c v1 v2 v3 u0 u1 t0 t1 t2 : Value} {zs x1 x2 x3 : List Int} (ho : OI W base c zs) (hm : Own3 W base v1 v2 v3 x1 x2 x3) (kr : Blk W R #[u0, u1] 58) (km : Blk W (R + 1) #[t0, t1, t2] 38)
    (hB : Below w.heap.size w W) (hb : w.heap.size ≤ base) (hR : w.heap.size ≤ R)
    (hX : X = setM (setC W R (.int .i64 pc) c) (R + 1) v1 v2 v3 ∨ X = setC (setM W (R + 1) v1 v2 v3) R (.int .i64 pc) c) :
    (OI X.drew w.heap.size c zs ∧ Own3 X.drew w.heap.size v1 v2 v3 x1 x2 x3 ∧ Below w.heap.size w X.drew) ∧
      X.drew.cell? ⟨R, 0, none⟩ = some (.int .i64 pc) ∧ X.drew.cell? ⟨R, 1, none⟩ = some c ∧ X.drew.cell? ⟨R + 1, 0, none⟩ = some v1 ∧ X.drew.cell? ⟨R + 1, 1, none⟩ = some v2 ∧ X.drew.cell? ⟨R + 1, 2, none⟩ = some v3 := by
  obtain ⟨⟨h1, h2, h3⟩, h4⟩ := st_fin ho hm kr km hB hb hR hX
  exact ⟨⟨h1, h2, h3.drew⟩, h4⟩
theorem wrm_f (n1 n2 n3 : Nat) (x1 x2 x3 : List Int) (p s v : Int) (h : (wrm n1 n2 n3 x1 x2 x3 p s v).2.2.2 ≠ 0) : (wrm n1 n2 n3 x1 x2 x3 p s v).1 = x1 ∧ (wrm n1 n2 n3 x1 x2 x3 p s v).2.1 = x2 ∧ (wrm n1 n2 n3 x1 x2 x3 p s v).2.2.1 = x3 := by
  by_cases hw : wff n1 n2 n3 p s = 0
  · exfalso
    obtain ⟨hm, hs, ha, ⟨rfl, hn⟩ | ⟨hp, hi, hj⟩⟩ := wff_zero hw
    · rw [wrm, if_pos ⟨hm, hs⟩, if_neg (by rw [ha]; simp), if_pos rfl, if_neg (by omega)] at h
      exact h rfl
    · rw [wrm, if_pos ⟨hm, hs⟩, if_neg (by rw [ha]; simp), if_neg hp, if_neg (by rw [hi]; simp), if_pos hj] at h
      exact h rfl
  · rw [wrm_fault _ _ _ _ _ _ _ _ _ hw]
    exact ⟨rfl, rfl, rfl⟩
/-- what l3Memory does at a load or store, beside what the operation does -/
def Mem6 (op d a i pc : Int) (rg : List Int) (n1 n2 n3 : Nat) (x1 x2 x3 : List Int) (rs : List Rg) (rn : Nat) (F : Int) (RG y1 y2 y3 : List Int) : Prop :=
  (∀ (rb cp g1 g2 g3 c1 c2 c3 : Nat) (ra : Option Addr) (rc : Nat) (base : Nat) (w : World), OI w base (.slice (some ⟨rb, 0, none⟩) 8 cp) rg → Own3 w base (.slice (some ⟨g1, 0, none⟩) n1 c1) (.slice (some ⟨g2, 0, none⟩) n2 c2) (.slice (some ⟨g3, 0, none⟩) n3 c3) x1 x2 x3 → RS w ra rn rc rs → base ≤ w.heap.size →
    Calls Tryz.prog 86 #[.agg #[.int .i64 pc, .slice (some ⟨rb, 0, none⟩) 8 cp], .agg #[.slice (some ⟨g1, 0, none⟩) n1 c1, .slice (some ⟨g2, 0, none⟩) n2 c2, .slice (some ⟨g3, 0, none⟩) n3 c3], .slice ra rn rc, .agg #[.int .i64 op, .int .i64 d, .int .i64 a, .int .i64 i]] w (MmPost w base pc (.slice (some ⟨rb, 0, none⟩) 8 cp) F RG y1 y2 y3)) ∧
  (F = 0 → opr op d a i pc rg n1 n2 n3 x1 x2 x3 rs rn = ⟨0, 0, (pc + 4) % 4294967296, RG, y1, y2, y3⟩) ∧ (F ≠ 0 → opr op d a i pc rg n1 n2 n3 x1 x2 x3 rs rn = ⟨5, F, pc, rg, x1, x2, x3⟩)
theorem mem6 (op d a i pc : Int) (rg : List Int) (n1 n2 n3 : Nat) (x1 x2 x3 : List Int) (rs : List Rg) (rn : Nat) (h14 : 14 ≤ op) (h19 : op ≤ 19) (hw : ∀ z ∈ rg, 0 ≤ z ∧ z ≤ 4294967295) (hn : n1 + n2 + n3 ≤ 1048576) (d0 : 0 ≤ d) (d1 : d < 8) (a0 : 0 ≤ a) (a7 : a < 8) (i0 : 0 ≤ i) (i1 : i ≤ 65535) :
    ∃ F RG y1 y2 y3, Mem6 op d a i pc rg n1 n2 n3 x1 x2 x3 rs rn F RG y1 y2 y3 := by
  rcases (show op = 14 ∨ op = 15 ∨ op = 16 ∨ op = 17 ∨ op = 18 ∨ op = 19 by omega) with rfl | rfl | rfl | rfl | rfl | rfl
  · refine ⟨_, _, _, _, _, fun rb cp g1 g2 g3 c1 c2 c3 ra rc base w ho hm hrs hb => l3Memory_14 d a i pc rb cp rg g1 g2 g3 n1 c1 n2 c2 n3 c3 x1 x2 x3 ra rn rc rs base w ho hm hrs hw hn hb d0 d1 a0 a7 i0 i1, fun h => ?_, fun h => ?_⟩
    · have e : opr 14 d a i pc rg n1 n2 n3 x1 x2 x3 rs rn = ldo pc rg n1 n2 n3 x1 x2 x3 rs rn d a i 1 := rfl
      rw [e, ldo]
      unfold lf at *
      by_cases ha : alw rs rn (atOf rg a i) 1 1 = true
      · rw [if_pos ha] at h
        simp only [ha, h, reduceIte]
      · rw [if_neg ha] at h
        omega
    · have e : opr 14 d a i pc rg n1 n2 n3 x1 x2 x3 rs rn = ldo pc rg n1 n2 n3 x1 x2 x3 rs rn d a i 1 := rfl
      rw [e, ldo]
      unfold lf at *
      by_cases ha : alw rs rn (atOf rg a i) 1 1 = true
      · rw [if_pos ha] at h
        simp only [ha, h, reduceIte]
      · simp [ha]
  · refine ⟨_, _, _, _, _, fun rb cp g1 g2 g3 c1 c2 c3 ra rc base w ho hm hrs hb => l3Memory_15 d a i pc rb cp rg g1 g2 g3 n1 c1 n2 c2 n3 c3 x1 x2 x3 ra rn rc rs base w ho hm hrs hw hn hb d0 d1 a0 a7 i0 i1, fun h => ?_, fun h => ?_⟩
    · have e : opr 15 d a i pc rg n1 n2 n3 x1 x2 x3 rs rn = ldo pc rg n1 n2 n3 x1 x2 x3 rs rn d a i 2 := rfl
      rw [e, ldo]
      unfold lf at *
      by_cases ha : alw rs rn (atOf rg a i) 2 1 = true
      · rw [if_pos ha] at h
        simp only [ha, h, reduceIte]
      · rw [if_neg ha] at h
        omega
    · have e : opr 15 d a i pc rg n1 n2 n3 x1 x2 x3 rs rn = ldo pc rg n1 n2 n3 x1 x2 x3 rs rn d a i 2 := rfl
      rw [e, ldo]
      unfold lf at *
      by_cases ha : alw rs rn (atOf rg a i) 2 1 = true
      · rw [if_pos ha] at h
        simp only [ha, h, reduceIte]
      · simp [ha]
  · refine ⟨_, _, _, _, _, fun rb cp g1 g2 g3 c1 c2 c3 ra rc base w ho hm hrs hb => l3Memory_16 d a i pc rb cp rg g1 g2 g3 n1 c1 n2 c2 n3 c3 x1 x2 x3 ra rn rc rs base w ho hm hrs hw hn hb d0 d1 a0 a7 i0 i1, fun h => ?_, fun h => ?_⟩
    · have e : opr 16 d a i pc rg n1 n2 n3 x1 x2 x3 rs rn = ldo pc rg n1 n2 n3 x1 x2 x3 rs rn d a i 4 := rfl
      rw [e, ldo]
      unfold lf at *
      by_cases ha : alw rs rn (atOf rg a i) 4 1 = true
      · rw [if_pos ha] at h
        simp only [ha, h, reduceIte]
      · rw [if_neg ha] at h
        omega
    · have e : opr 16 d a i pc rg n1 n2 n3 x1 x2 x3 rs rn = ldo pc rg n1 n2 n3 x1 x2 x3 rs rn d a i 4 := rfl
      rw [e, ldo]
      unfold lf at *
      by_cases ha : alw rs rn (atOf rg a i) 4 1 = true
      · rw [if_pos ha] at h
        simp only [ha, h, reduceIte]
      · simp [ha]
  · refine ⟨_, _, _, _, _, fun rb cp g1 g2 g3 c1 c2 c3 ra rc base w ho hm hrs hb => l3Memory_17 d a i pc rb cp rg g1 g2 g3 n1 c1 n2 c2 n3 c3 x1 x2 x3 ra rn rc rs base w ho hm hrs hw hn hb d0 d1 a0 a7 i0 i1, fun h => ?_, fun h => ?_⟩
    · have e : opr 17 d a i pc rg n1 n2 n3 x1 x2 x3 rs rn = sto pc rg n1 n2 n3 x1 x2 x3 rs rn d a i 1 := rfl
      rw [e, sto]
      unfold swr at *
      by_cases ha : alw rs rn (atOf rg a i) 1 2 = true
      · rw [if_pos ha] at h
        rw [if_pos ha, if_pos ha, if_pos h]
      · rw [if_neg ha] at h
        dsimp only at h
        omega
    · have e : opr 17 d a i pc rg n1 n2 n3 x1 x2 x3 rs rn = sto pc rg n1 n2 n3 x1 x2 x3 rs rn d a i 1 := rfl
      rw [e, sto]
      unfold swr at *
      by_cases ha : alw rs rn (atOf rg a i) 1 2 = true
      · rw [if_pos ha] at h
        obtain ⟨e1, e2, e3⟩ := wrm_f _ _ _ _ _ _ _ _ _ h
        rw [if_pos ha, if_pos ha, if_neg h, e1, e2, e3]
      · rw [if_neg ha, if_neg ha]
  · refine ⟨_, _, _, _, _, fun rb cp g1 g2 g3 c1 c2 c3 ra rc base w ho hm hrs hb => l3Memory_18 d a i pc rb cp rg g1 g2 g3 n1 c1 n2 c2 n3 c3 x1 x2 x3 ra rn rc rs base w ho hm hrs hw hn hb d0 d1 a0 a7 i0 i1, fun h => ?_, fun h => ?_⟩
    · have e : opr 18 d a i pc rg n1 n2 n3 x1 x2 x3 rs rn = sto pc rg n1 n2 n3 x1 x2 x3 rs rn d a i 2 := rfl
      rw [e, sto]
      unfold swr at *
      by_cases ha : alw rs rn (atOf rg a i) 2 2 = true
      · rw [if_pos ha] at h
        rw [if_pos ha, if_pos ha, if_pos h]
      · rw [if_neg ha] at h
        dsimp only at h
        omega
    · have e : opr 18 d a i pc rg n1 n2 n3 x1 x2 x3 rs rn = sto pc rg n1 n2 n3 x1 x2 x3 rs rn d a i 2 := rfl
      rw [e, sto]
      unfold swr at *
      by_cases ha : alw rs rn (atOf rg a i) 2 2 = true
      · rw [if_pos ha] at h
        obtain ⟨e1, e2, e3⟩ := wrm_f _ _ _ _ _ _ _ _ _ h
        rw [if_pos ha, if_pos ha, if_neg h, e1, e2, e3]
      · rw [if_neg ha, if_neg ha]
  · refine ⟨_, _, _, _, _, fun rb cp g1 g2 g3 c1 c2 c3 ra rc base w ho hm hrs hb => l3Memory_19 d a i pc rb cp rg g1 g2 g3 n1 c1 n2 c2 n3 c3 x1 x2 x3 ra rn rc rs base w ho hm hrs hw hn hb d0 d1 a0 a7 i0 i1, fun h => ?_, fun h => ?_⟩
    · have e : opr 19 d a i pc rg n1 n2 n3 x1 x2 x3 rs rn = sto pc rg n1 n2 n3 x1 x2 x3 rs rn d a i 4 := rfl
      rw [e, sto]
      unfold swr at *
      by_cases ha : alw rs rn (atOf rg a i) 4 2 = true
      · rw [if_pos ha] at h
        rw [if_pos ha, if_pos ha, if_pos h]
      · rw [if_neg ha] at h
        dsimp only at h
        omega
    · have e : opr 19 d a i pc rg n1 n2 n3 x1 x2 x3 rs rn = sto pc rg n1 n2 n3 x1 x2 x3 rs rn d a i 4 := rfl
      rw [e, sto]
      unfold swr at *
      by_cases ha : alw rs rn (atOf rg a i) 4 2 = true
      · rw [if_pos ha] at h
        obtain ⟨e1, e2, e3⟩ := wrm_f _ _ _ _ _ _ _ _ _ h
        rw [if_pos ha, if_pos ha, if_neg h, e1, e2, e3]
      · rw [if_neg ha, if_neg ha]
end Go.Proofs.YtngdgogjlpjjpadGreat

namespace Go.Proofs.YtngdgogjlpjjpadGreat
open Go.RowKit
set_option linter.unusedVariables false
set_option linter.unusedSimpArgs false
set_option maxRecDepth 100000

set_option maxHeartbeats 4000000 in
theorem sStep_bad (pc : Int) (cb co n cc : Nat) (zs : List Int) (b1 o1 b2 o2 b3 o3 n1 c1 n2 c2 n3 c3 : Nat) (x1 x2 x3 : List Int) (ra : Option Addr) (rn rc : Nat) (rs : List Rg) (w : World) (hc : IS w (some ⟨cb, co, none⟩) n cc zs) (h1 : BS w (some ⟨b1, o1, none⟩) n1 c1 x1) (h2 : BS w (some ⟨b2, o2, none⟩) n2 c2 x2) (h3 : BS w (some ⟨b3, o3, none⟩) n3 c3 x3) (hrs : RS w ra rn rc rs) (hcn : n ≤ 1048576) (hn : n1 + n2 + n3 ≤ 1048576) (hbad : (cok pc n zs && mok n1 n2 n3) = false) :
    Calls Tryz.prog 20 #[.agg #[.int .i64 pc, .slice (some ⟨cb, co, none⟩) n cc], .agg #[.slice (some ⟨b1, o1, none⟩) n1 c1, .slice (some ⟨b2, o2, none⟩) n2 c2, .slice (some ⟨b3, o3, none⟩) n3 c3], .slice ra rn rc] w (StPost w ⟨5, 2, pc, zs, x1, x2, x3⟩) := by
  have HC := hide (fun w h => l3CoreOk_any pc (some ⟨cb, co, none⟩) n cc zs w h)
  have HM := hide (fun w => sMemOk_any (some ⟨b1, o1, none⟩) (some ⟨b2, o2, none⟩) (some ⟨b3, o3, none⟩) n1 c1 n2 c2 n3 c3 w)
  generalize cok pc n zs = C at *
  generalize mok n1 n2 n3 = MM at *
  obtain ⟨W, hW⟩ : ∃ W, W = ((((w.alloc (.cells #[.int .i64 pc, .slice (some ⟨cb, co, none⟩) n cc] 58)).alloc (.cells #[.slice (some ⟨b1, o1, none⟩) n1 c1, .slice (some ⟨b2, o2, none⟩) n2 c2, .slice (some ⟨b3, o3, none⟩) n3 c3] 38)).alloc (.cells #[.int .i64 0, .slice none 0 0] 58)).alloc (.cells #[.slice none 0 0, .slice none 0 0, .slice none 0 0] 38)) := ⟨_, rfl⟩
  have hB0 : Below w.heap.size w W := by rw [hW]; exact ((((Below.refl _ _).alloc (Nat.le_refl _) _).alloc (by simp) _).alloc (by simp; omega) _).alloc (by simp; omega) _
  have k0 : Blk W (w.heap.size) #[.int .i64 pc, .slice (some ⟨cb, co, none⟩) n cc] 58 := by
    rw [hW]
    have := (((Blk.new w #[.int .i64 pc, .slice (some ⟨cb, co, none⟩) n cc] 58).alloc (.cells #[.slice (some ⟨b1, o1, none⟩) n1 c1, .slice (some ⟨b2, o2, none⟩) n2 c2, .slice (some ⟨b3, o3, none⟩) n3 c3] 38)).alloc (.cells #[.int .i64 0, .slice none 0 0] 58)).alloc (.cells #[.slice none 0 0, .slice none 0 0, .slice none 0 0] 38)
    simpa only [World.size_alloc] using this
  have k1 : Blk W (w.heap.size + 1) #[.slice (some ⟨b1, o1, none⟩) n1 c1, .slice (some ⟨b2, o2, none⟩) n2 c2, .slice (some ⟨b3, o3, none⟩) n3 c3] 38 := by
    rw [hW]
    have := ((Blk.new (w.alloc (.cells #[.int .i64 pc, .slice (some ⟨cb, co, none⟩) n cc] 58)) #[.slice (some ⟨b1, o1, none⟩) n1 c1, .slice (some ⟨b2, o2, none⟩) n2 c2, .slice (some ⟨b3, o3, none⟩) n3 c3] 38).alloc (.cells #[.int .i64 0, .slice none 0 0] 58)).alloc (.cells #[.slice none 0 0, .slice none 0 0, .slice none 0 0] 38)
    simpa only [World.size_alloc] using this
  have k2 : Blk W (w.heap.size + 1 + 1) #[.int .i64 0, .slice none 0 0] 58 := by
    rw [hW]
    have := (Blk.new ((w.alloc (.cells #[.int .i64 pc, .slice (some ⟨cb, co, none⟩) n cc] 58)).alloc (.cells #[.slice (some ⟨b1, o1, none⟩) n1 c1, .slice (some ⟨b2, o2, none⟩) n2 c2, .slice (some ⟨b3, o3, none⟩) n3 c3] 38)) #[.int .i64 0, .slice none 0 0] 58).alloc (.cells #[.slice none 0 0, .slice none 0 0, .slice none 0 0] 38)
    simpa only [World.size_alloc] using this
  have k3 : Blk W (w.heap.size + 1 + 1 + 1) #[.slice none 0 0, .slice none 0 0, .slice none 0 0] 38 := by
    rw [hW]
    have := Blk.new (((w.alloc (.cells #[.int .i64 pc, .slice (some ⟨cb, co, none⟩) n cc] 58)).alloc (.cells #[.slice (some ⟨b1, o1, none⟩) n1 c1, .slice (some ⟨b2, o2, none⟩) n2 c2, .slice (some ⟨b3, o3, none⟩) n3 c3] 38)).alloc (.cells #[.int .i64 0, .slice none 0 0] 58)) #[.slice none 0 0, .slice none 0 0, .slice none 0 0] 38
    simpa only [World.size_alloc] using this
  have HLC := hide (fun w h => l3Core_any pc cb co n cc zs w h hcn)
  have HL1 := hide (fun w h1 h2 h3 => l1Copy_some b1 o1 b2 o2 b3 o3 n1 c1 n2 c2 n3 c3 x1 x2 x3 w h1 h2 h3 hn)
  have hc0 := hc.below hB0
  have h10 := h1.below hB0
  have h20 := h2.below hB0
  have h30 := h3.below hB0
  have hr0 := hrs.below hB0
  clear hc h1 h2 h3 hrs
  obtain ⟨e1, e2, e3⟩ := k0.two'
  go_enter Tryz.func20, Tryz.ntmps20
  go_wp2_with fail
  rw [← hW]
  clear hW
  refine (HLC.out _ hc0).mono ?_
  rintro e w1 ⟨ca, cp, rfl, oC, hb1⟩
  have hA1 : Below W.heap.size W (w1.alloc (.cells #[.int .i64 pc, .slice ca n cp] 58)) := hb1.alloc hb1.size _
  have kA := Blk.new w1 #[.int .i64 pc, .slice ca n cp] 58
  have hlA := (k3.below hb1).lt
  obtain ⟨f1, f2, f3, f4⟩ := (k1.below hb1).three
  have lf1 := (k1.below hb1).lt
  clear e1 e2 e3
  go_wp2_with fail
  refine (HL1.out _ (h10.below hA1) (h20.below hA1) (h30.below hA1)).mono ?_
  rintro e w2 ⟨g1, d1, g2, d2, g3, d3, rfl, mM, hb2⟩
  have hA2 : Below (w1.alloc (.cells #[.int .i64 pc, .slice ca n cp] 58)).heap.size (w1.alloc (.cells #[.int .i64 pc, .slice ca n cp] 58)) (w2.alloc (.cells #[.slice (some ⟨g1, 0, none⟩) n1 d1, .slice (some ⟨g2, 0, none⟩) n2 d2, .slice (some ⟨g3, 0, none⟩) n3 d3] 38)) := hb2.alloc hb2.size _
  have bb := hA1.trans (hA2.mono hA1.size)
  have SS : Ss w (w2.alloc (.cells #[.slice (some ⟨g1, 0, none⟩) n1 d1, .slice (some ⟨g2, 0, none⟩) n2 d2, .slice (some ⟨g3, 0, none⟩) n3 d3] 38)) w1.heap.size w2.heap.size pc cb co n cc zs b1 o1 b2 o2 b3 o3 n1 c1 n2 c2 n3 c3 x1 x2 x3 ra rn rc rs pc (.slice ca n cp) zs (.slice (some ⟨g1, 0, none⟩) n1 d1) (.slice (some ⟨g2, 0, none⟩) n2 d2) (.slice (some ⟨g3, 0, none⟩) n3 d3) x1 x2 x3 :=
    ⟨hB0.trans (bb.mono hB0.size), k0.below bb, k1.below bb, k2.below bb, k3.below bb, kA.below hA2, Blk.new w2 _ _, hlA, (by have := hb2.size; simp at this; omega), ((oC.below ((Below.refl _ _).alloc (Nat.le_refl _) (.cells #[.int .i64 pc, .slice ca n cp] 58))).below hA2).mono hB0.size, own3_mono (own3_alloc mM _) (by have := hB0.size; have := hA1.size; omega), hc0.below bb, h10.below bb, h20.below bb, h30.below bb, hr0.below bb⟩
  have hs0 : w.heap.size < w2.heap.size := by have := hb2.size; simp at this; omega
  have lk0 := ((k0.below hA1).below hb2).lt
  obtain ⟨e1, e2, e3⟩ := ((k0.below hA1).below hb2).two'
  clear hB0 k0 k1 k2 k3 hc0 h10 h20 h30 hr0 oC hb1 hA1 kA hlA f1 f2 f3 f4 mM hb2 hA2 bb lf1
  go_wp2_with fail
  refine (HC.out _ SS.ic).mono ?_
  rintro e w3 ⟨rfl, hb3⟩
  replace SS := SS.step hb3
  clear hb3 e1 e2 e3 lk0
  cases C
  · clear hbad
    have lkA := SS.kA.lt
    have hAs := SS.hA
    have hABs := SS.hAB
    have nA2 : w1.heap.size ≠ w.heap.size + 1 + 1 := by omega
    have nA3 : w1.heap.size ≠ w.heap.size + 1 + 1 + 1 := by omega
    have nB2 : w2.heap.size ≠ w.heap.size + 1 + 1 := by omega
    have nB3 : w2.heap.size ≠ w.heap.size + 1 + 1 + 1 := by omega
    have nA2' := nA2.symm
    have nA3' := nA3.symm
    have nB2' := nB2.symm
    have nB3' := nB3.symm
    obtain ⟨fA, ya0, ya1, ya2, ya3, ya4⟩ := st_find (pc := pc) SS.oc SS.om SS.k2 SS.k3 SS.below (Nat.le_refl _) (by omega) (Or.inl rfl)
    obtain ⟨fB, yb0, yb1, yb2, yb3, yb4⟩ := st_find (pc := pc) SS.oc SS.om SS.k2 SS.k3 SS.below (Nat.le_refl _) (by omega) (Or.inr rfl)
    simp only [setC, setM] at fA ya0 ya1 ya2 ya3 ya4 fB yb0 yb1 yb2 yb3 yb4
    have FA := hide fA
    have FB := hide fB
    obtain ⟨t1, t2, t3⟩ := SS.kA.two'
    obtain ⟨s1, s2, s3, s4⟩ := SS.kB.three
    obtain ⟨z1, z2, z3⟩ := SS.k2.two'
    obtain ⟨z4, z5, z6, z7⟩ := SS.k3.three
    clear fA fB SS
    go_wp2
    go_region
    all_goals
      go_wp2
      exact bodyPost_ret (v := .tuple #[.agg #[.int .i64 pc, .slice ca n cp], .agg #[.slice (some ⟨g1, 0, none⟩) n1 d1, .slice (some ⟨g2, 0, none⟩) n2 d2, .slice (some ⟨g3, 0, none⟩) n3 d3], .int .i64 5, .int .i64 2]) (by first | (simp [results, Tryz.results20, go_sem, ya0, ya1, ya2, ya3, ya4]; done) | (simp [results, Tryz.results20, go_sem, yb0, yb1, yb2, yb3, yb4]; done)) rfl
        ⟨_, _, _, _, _, _, _, _, _, _, _, _, rfl, by first | exact FA.out.1 | exact FB.out.1, by first | exact FA.out.2.1 | exact FB.out.2.1, by first | exact FA.out.2.2 | exact FB.out.2.2⟩

  · have hMM : MM = false := by simpa using hbad
    subst hMM
    clear hbad
    obtain ⟨f1, f2, f3, f4⟩ := SS.k1.three
    go_wp2_with fail
    refine (HM.out _).mono ?_
    rintro e w4 ⟨rfl, hb4⟩
    replace SS := SS.step hb4
    clear hb4 f1 f2 f3 f4
    have lkA := SS.kA.lt
    have hAs := SS.hA
    have hABs := SS.hAB
    have nA2 : w1.heap.size ≠ w.heap.size + 1 + 1 := by omega
    have nA3 : w1.heap.size ≠ w.heap.size + 1 + 1 + 1 := by omega
    have nB2 : w2.heap.size ≠ w.heap.size + 1 + 1 := by omega
    have nB3 : w2.heap.size ≠ w.heap.size + 1 + 1 + 1 := by omega
    have nA2' := nA2.symm
    have nA3' := nA3.symm
    have nB2' := nB2.symm
    have nB3' := nB3.symm
    obtain ⟨fA, ya0, ya1, ya2, ya3, ya4⟩ := st_find (pc := pc) SS.oc SS.om SS.k2 SS.k3 SS.below (Nat.le_refl _) (by omega) (Or.inl rfl)
    obtain ⟨fB, yb0, yb1, yb2, yb3, yb4⟩ := st_find (pc := pc) SS.oc SS.om SS.k2 SS.k3 SS.below (Nat.le_refl _) (by omega) (Or.inr rfl)
    simp only [setC, setM] at fA ya0 ya1 ya2 ya3 ya4 fB yb0 yb1 yb2 yb3 yb4
    have FA := hide fA
    have FB := hide fB
    obtain ⟨t1, t2, t3⟩ := SS.kA.two'
    obtain ⟨s1, s2, s3, s4⟩ := SS.kB.three
    obtain ⟨z1, z2, z3⟩ := SS.k2.two'
    obtain ⟨z4, z5, z6, z7⟩ := SS.k3.three
    clear fA fB SS
    go_wp2
    go_region
    all_goals
      go_wp2
      exact bodyPost_ret (v := .tuple #[.agg #[.int .i64 pc, .slice ca n cp], .agg #[.slice (some ⟨g1, 0, none⟩) n1 d1, .slice (some ⟨g2, 0, none⟩) n2 d2, .slice (some ⟨g3, 0, none⟩) n3 d3], .int .i64 5, .int .i64 2]) (by first | (simp [results, Tryz.results20, go_sem, ya0, ya1, ya2, ya3, ya4]; done) | (simp [results, Tryz.results20, go_sem, yb0, yb1, yb2, yb3, yb4]; done)) rfl
        ⟨_, _, _, _, _, _, _, _, _, _, _, _, rfl, by first | exact FA.out.1 | exact FB.out.1, by first | exact FA.out.2.1 | exact FB.out.2.1, by first | exact FA.out.2.2 | exact FB.out.2.2⟩

end Go.Proofs.YtngdgogjlpjjpadGreat

namespace Go.Proofs.YtngdgogjlpjjpadGreat
open Go.RowKit
set_option linter.unusedVariables false
set_option linter.unusedSimpArgs false
set_option maxRecDepth 100000

theorem Ss.turn {w W X : World} {A B : Nat} {pc : Int} {cb co n cc : Nat} {zs : List Int} {b1 o1 b2 o2 b3 o3 n1 c1 n2 c2 n3 c3 : Nat} {x1 x2 x3 : List Int} {ra : Option Addr} {rn rc : Nat} {rs : List Rg} {pv : Int} {cv : Value} {zv : List Int} {v1 v2 v3 : Value} {y1 y2 y3 : List Int} {zv' : List Int} (h : Ss w W A B pc cb co n cc zs b1 o1 b2 o2 b3 o3 n1 c1 n2 c2 n3 c3 x1 x2 x3 ra rn rc rs pv cv zv v1 v2 v3 y1 y2 y3) (hc : IS w (some ⟨cb, co, none⟩) n cc zs) (h1 : BS w (some ⟨b1, o1, none⟩) n1 c1 x1) (h2 : BS w (some ⟨b2, o2, none⟩) n2 c2 x2) (h3 : BS w (some ⟨b3, o3, none⟩) n3 c3 x3) (hrs : RS w ra rn rc rs) (hT : Turn (fun j => cv.ownBlock = some j) W X) (ho : OI X w.heap.size cv zv') (hm : Own3 X w.heap.size v1 v2 v3 y1 y2 y3) : Ss w X A B pc cb co n cc zs b1 o1 b2 o2 b3 o3 n1 c1 n2 c2 n3 c3 x1 x2 x3 ra rn rc rs pv cv zv' v1 v2 v3 y1 y2 y3 := by
  have hB : Below w.heap.size w X := below_turn h.below hT (fun k e => (h.oc.lt k e).1) h.below.size
  exact ⟨hB, turn_blk hT h.k0 (fun e => oi_ne h.oc h.k0 (by decide) e), turn_blk hT h.k1 (fun e => oi_ne h.oc h.k1 (by decide) e), turn_blk hT h.k2 (fun e => oi_ne h.oc h.k2 (by decide) e), turn_blk hT h.k3 (fun e => oi_ne h.oc h.k3 (by decide) e), turn_blk hT h.kA (fun e => oi_ne h.oc h.kA (by decide) e), turn_blk hT h.kB (fun e => oi_ne h.oc h.kB (by decide) e), h.hA, h.hAB, ho, hm, hc.below hB, h1.below hB, h2.below hB, h3.below hB, hrs.below hB⟩
theorem Ss.reg {w W : World} {A B : Nat} {pc : Int} {cb co n cc : Nat} {zs : List Int} {b1 o1 b2 o2 b3 o3 n1 c1 n2 c2 n3 c3 : Nat} {x1 x2 x3 : List Int} {ra : Option Addr} {rn rc : Nat} {rs : List Rg} {pv : Int} {zv : List Int} {v1 v2 v3 : Value} {y1 y2 y3 : List Int} {rb nn cp : Nat} (h : Ss w W A B pc cb co n cc zs b1 o1 b2 o2 b3 o3 n1 c1 n2 c2 n3 c3 x1 x2 x3 ra rn rc rs pv (.slice (some ⟨rb, 0, none⟩) nn cp) zv v1 v2 v3 y1 y2 y3) (hc : IS w (some ⟨cb, co, none⟩) n cc zs) (h1 : BS w (some ⟨b1, o1, none⟩) n1 c1 x1) (h2 : BS w (some ⟨b2, o2, none⟩) n2 c2 x2) (h3 : BS w (some ⟨b3, o3, none⟩) n3 c3 x3) (hrs : RS w ra rn rc rs) (i : Nat) (hi : i < nn) (z : Int) (hz : wfi z) : Ss w (W.setCell ⟨rb, i, none⟩ (.int .i64 z)) A B pc cb co n cc zs b1 o1 b2 o2 b3 o3 n1 c1 n2 c2 n3 c3 x1 x2 x3 ra rn rc rs pv (.slice (some ⟨rb, 0, none⟩) nn cp) (zv.set i z) v1 v2 v3 y1 y2 y3 := by
  have tt : Turn (fun j => j = rb) W (W.setCell ⟨rb, i, none⟩ (.int .i64 z)) := turn_setg _ _ _ _
  obtain ⟨cur, kc⟩ := h.oc.blk
  have nb : ∀ {u : Value} {ys : List Int}, OB W w.heap.size u ys → ∀ k, u.ownBlock = some k → ¬ (k = rb) := fun h k hk e => ob_ne h kc (by decide) (by rw [hk, e])
  exact h.turn hc h1 h2 h3 hrs (tt.mono (fun j e => by have e' : j = rb := e; show some rb = some j; rw [e'])) (h.oc.set i hi z hz) ⟨turn_ob tt h.om.1 (nb h.om.1), turn_ob tt h.om.2.1 (nb h.om.2.1), turn_ob tt h.om.2.2.1 (nb h.om.2.2.1), h.om.2.2.2⟩
theorem Ss.setpc {w W : World} {A B : Nat} {pc : Int} {cb co n cc : Nat} {zs : List Int} {b1 o1 b2 o2 b3 o3 n1 c1 n2 c2 n3 c3 : Nat} {x1 x2 x3 : List Int} {ra : Option Addr} {rn rc : Nat} {rs : List Rg} {pv : Int} {cv : Value} {zv : List Int} {v1 v2 v3 : Value} {y1 y2 y3 : List Int} (h : Ss w W A B pc cb co n cc zs b1 o1 b2 o2 b3 o3 n1 c1 n2 c2 n3 c3 x1 x2 x3 ra rn rc rs pv cv zv v1 v2 v3 y1 y2 y3) (hc : IS w (some ⟨cb, co, none⟩) n cc zs) (h1 : BS w (some ⟨b1, o1, none⟩) n1 c1 x1) (h2 : BS w (some ⟨b2, o2, none⟩) n2 c2 x2) (h3 : BS w (some ⟨b3, o3, none⟩) n3 c3 x3) (hrs : RS w ra rn rc rs) (q : Int) : Ss w (W.setCell ⟨A, 0, none⟩ (.int .i64 q)) A B pc cb co n cc zs b1 o1 b2 o2 b3 o3 n1 c1 n2 c2 n3 c3 x1 x2 x3 ra rn rc rs q cv zv v1 v2 v3 y1 y2 y3 := by
  have hA := h.hA
  have hAB := h.hAB
  have tt : Turn (fun j => j = A) W (W.setCell ⟨A, 0, none⟩ (.int .i64 q)) := turn_setg _ _ _ _
  have hB : Below w.heap.size w (W.setCell ⟨A, 0, none⟩ (.int .i64 q)) := below_turn h.below tt (fun k e => by have e' : k = A := e; omega) h.below.size
  have nb : ∀ {u : Value} {ys : List Int}, OB W w.heap.size u ys → ∀ k, u.ownBlock = some k → ¬ (k = A) := fun g k hk e => ob_ne g h.kA (by decide) (by rw [hk, e])
  have kA := h.kA.set 0 (.int .i64 q)
  exact ⟨hB, turn_blk tt h.k0 (fun e => by have e' : w.heap.size = A := e; omega), turn_blk tt h.k1 (fun e => by have e' : w.heap.size + 1 = A := e; omega), turn_blk tt h.k2 (fun e => by have e' : w.heap.size + 1 + 1 = A := e; omega), turn_blk tt h.k3 (fun e => by have e' : w.heap.size + 1 + 1 + 1 = A := e; omega), by simpa using kA, turn_blk tt h.kB (fun e => by have e' : B = A := e; omega), h.hA, h.hAB, turn_oi tt h.oc (fun k hk e => oi_ne h.oc h.kA (by decide) (by rw [hk]; exact congrArg some e)), ⟨turn_ob tt h.om.1 (nb h.om.1), turn_ob tt h.om.2.1 (nb h.om.2.1), turn_ob tt h.om.2.2.1 (nb h.om.2.2.1), h.om.2.2.2⟩, hc.below hB, h1.below hB, h2.below hB, h3.below hB, hrs.below hB⟩
theorem Ss.mem {w W X : World} {A B : Nat} {pc : Int} {cb co n cc : Nat} {zs : List Int} {b1 o1 b2 o2 b3 o3 n1 c1 n2 c2 n3 c3 : Nat} {x1 x2 x3 : List Int} {ra : Option Addr} {rn rc : Nat} {rs : List Rg} {pv : Int} {cv : Value} {zv : List Int} {v1 v2 v3 : Value} {y1 y2 y3 : List Int} {zv' : List Int} {u1 u2 u3 : Value} {z1 z2 z3 : List Int} (h : Ss w W A B pc cb co n cc zs b1 o1 b2 o2 b3 o3 n1 c1 n2 c2 n3 c3 x1 x2 x3 ra rn rc rs pv cv zv v1 v2 v3 y1 y2 y3) (hc : IS w (some ⟨cb, co, none⟩) n cc zs) (h1 : BS w (some ⟨b1, o1, none⟩) n1 c1 x1) (h2 : BS w (some ⟨b2, o2, none⟩) n2 c2 x2) (h3 : BS w (some ⟨b3, o3, none⟩) n3 c3 x3) (hrs : RS w ra rn rc rs) (hT : Turn (fun j => cv.ownBlock = some j) W X) (ho : OI X w.heap.size cv zv') (hm : Own3 X w.heap.size u1 u2 u3 z1 z2 z3) :
    Ss w (setM (setC X A (.int .i64 pv) cv) B u1 u2 u3) A B pc cb co n cc zs b1 o1 b2 o2 b3 o3 n1 c1 n2 c2 n3 c3 x1 x2 x3 ra rn rc rs pv cv zv' u1 u2 u3 z1 z2 z3 := by
  have hA := h.hA
  have hAB := h.hAB
  have jA := turn_blk hT h.kA (fun e => oi_ne h.oc h.kA (by decide) e)
  have jB := turn_blk hT h.kB (fun e => oi_ne h.oc h.kB (by decide) e)
  have tt : Turn (fun j => j = A ∨ j = B) X (setM (setC X A (.int .i64 pv) cv) B u1 u2 u3) := (((turn_setg _ _ _ _).trans (turn_setg _ _ _ _)).mono (fun k e => Or.inl e)).trans ((((turn_setg _ _ _ _).trans (turn_setg _ _ _ _)).trans (turn_setg _ _ _ _)).mono (fun k e => Or.inr e))
  have hB0 : Below w.heap.size w X := below_turn h.below hT (fun k e => (h.oc.lt k e).1) h.below.size
  have hB : Below w.heap.size w (setM (setC X A (.int .i64 pv) cv) B u1 u2 u3) := below_turn hB0 tt (fun k e => by rcases e with e | e <;> omega) hB0.size
  have nb : ∀ {u : Value} {ys : List Int}, OB X w.heap.size u ys → ∀ k, u.ownBlock = some k → ¬ (k = A ∨ k = B) := fun g k hk e => by
    rcases e with e | e
    · exact ob_ne g jA (by decide) (by rw [hk, e])
    · exact ob_ne g jB (by decide) (by rw [hk, e])
  have low : ∀ {G : Nat} {u : Array Value} {t : TypeId}, Blk W G u t → t ≠ 3 → G < A → Blk (setM (setC X A (.int .i64 pv) cv) B u1 u2 u3) G u t := fun g ht hG => turn_blk tt (turn_blk hT g (fun e => oi_ne h.oc g ht e)) (fun e => by rcases e with e | e <;> omega)
  have kA : Blk (setM (setC X A (.int .i64 pv) cv) B u1 u2 u3) A #[.int .i64 pv, cv] 58 := by
    have k1 := ((((jA.set 0 (.int .i64 pv)).set 1 cv).other ⟨B, 0, none⟩ u1 (by dsimp only; omega)).other ⟨B, 1, none⟩ u2 (by dsimp only; omega)).other ⟨B, 2, none⟩ u3 (by dsimp only; omega)
    simpa [setC, setM] using k1
  have kB : Blk (setM (setC X A (.int .i64 pv) cv) B u1 u2 u3) B #[u1, u2, u3] 38 := by
    have k1 := ((((jB.other ⟨A, 0, none⟩ (.int .i64 pv) (by dsimp only; omega)).other ⟨A, 1, none⟩ cv (by dsimp only; omega)).set 0 u1).set 1 u2).set 2 u3
    simpa [setC, setM] using k1
  exact ⟨hB, low h.k0 (by decide) (by omega), low h.k1 (by decide) (by omega), low h.k2 (by decide) (by omega), low h.k3 (by decide) (by omega), kA, kB, h.hA, h.hAB, turn_oi tt ho (fun k hk e => by
    rcases e with e | e
    · exact oi_ne ho jA (by decide) (by rw [hk, e])
    · exact oi_ne ho jB (by decide) (by rw [hk, e])), ⟨turn_ob tt hm.1 (nb hm.1), turn_ob tt hm.2.1 (nb hm.2.1), turn_ob tt hm.2.2.1 (nb hm.2.2.1), hm.2.2.2⟩, hc.below hB, h1.below hB, h2.below hB, h3.below hB, hrs.below hB⟩
theorem oi_addr' {w : World} {base n cap : Nat} {a : Option Addr} {zs : List Int} (h : OI w base (.slice a n cap) zs) (hn : n ≠ 0) : ∃ g, a = some ⟨g, 0, none⟩ := by
  have hl := h.is.1
  obtain ⟨_, ⟨h0, _⟩ | ⟨g, cap', cur, hv, _⟩⟩ := h.1
  · injection h0 with _ h1 _; exact absurd h1 hn
  · injection hv with hv1 _ _; exact ⟨g, hv1⟩
theorem opr_alu (op d a i pc : Int) (rg : List Int) (n1 n2 n3 : Nat) (x1 x2 x3 : List Int) (rs : List Rg) (rn : Nat) (h : 2 ≤ op ∧ op ≤ 13) : opr op d a i pc rg n1 n2 n3 x1 x2 x3 rs rn = ⟨0, 0, (pc + 4) % 4294967296, rg.set d.toNat (alu op i (rg.getD d.toNat 0) (rg.getD a.toNat 0)), x1, x2, x3⟩ := by
  unfold opr
  rw [if_neg (by omega), if_neg (by omega), if_neg (by omega), if_neg (by omega), if_neg (by omega), if_neg (by omega), if_pos h]
theorem opr_else (op d a i pc : Int) (rg : List Int) (n1 n2 n3 : Nat) (x1 x2 x3 : List Int) (rs : List Rg) (rn : Nat) (h : op = 1 ∨ 20 ≤ op) : opr op d a i pc rg n1 n2 n3 x1 x2 x3 rs rn = ⟨(ev op i ((pc + 4) % 4294967296)).1, (ev op i ((pc + 4) % 4294967296)).2, if jmp op (rg.getD d.toNat 0) = true then (pc + 4 + 4 * wide i) % 4294967296 else (pc + 4) % 4294967296, rg, x1, x2, x3⟩ := by
  unfold opr
  rw [if_neg (by omega), if_neg (by omega), if_neg (by omega), if_neg (by omega), if_neg (by omega), if_neg (by omega), if_neg (by omega)]
end Go.Proofs.YtngdgogjlpjjpadGreat
