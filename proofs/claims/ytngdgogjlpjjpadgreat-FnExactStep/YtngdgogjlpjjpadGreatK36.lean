import Derived.Test.YtngdgogjlpjjpadGreatK35
import Derived.Test.YtngdgogjlpjjpadGreatK07
import Derived.Test.YtngdgogjlpjjpadGreatK30
namespace Go.Proofs.YtngdgogjlpjjpadGreat
open Go.RowKit
set_option linter.unusedVariables false
set_option linter.unusedSimpArgs false
set_option maxRecDepth 100000

/-- WHAT l3Memory GIVES: core and memory, and a fault. -/
def MmPost (w : World) (base : Nat) (pc : Int) (c : Value) (f : Int) (rg x1 x2 x3 : List Int) (e : Ending) (w' : World) : Prop :=
  ∃ a1 m1 d1 a2 m2 d2 a3 m3 d3, e = .returned (.tuple #[.agg #[.int .i64 pc, c], .agg #[.slice a1 m1 d1, .slice a2 m2 d2, .slice a3 m3 d3], .int .i64 f]) ∧
    OI w' base c rg ∧ Own3 w' base (.slice a1 m1 d1) (.slice a2 m2 d2) (.slice a3 m3 d3) x1 x2 x3 ∧ Turn (fun j => c.ownBlock = some j) w w'
theorem OI.set {w : World} {base rb n cap : Nat} {zs : List Int} (h : OI w base (.slice (some ⟨rb, 0, none⟩) n cap) zs) (i : Nat) (hi : i < n) (z : Int) (hz : wfi z) : OI (w.setCell ⟨rb, i, none⟩ (.int .i64 z)) base (.slice (some ⟨rb, 0, none⟩) n cap) (zs.set i z) := by
  have hn := h.is.1
  obtain ⟨hl, ⟨h0, _⟩ | ⟨g, cap', cur, hv, hg, hh, h1, h2, h3, h4⟩⟩ := h.1
  · cases h0
  · injection hv with hv1 hv2 hv3
    injection hv1 with hv1
    injection hv1 with hv1
    subst hv1 hv3
    refine ⟨⟨by simp, .inr ⟨rb, cap, cur.setIfInBounds i (.int .i64 z), by rw [List.length_set]; rw [hv2], hg, Blk.set (w := w) hh i (.int .i64 z), by rw [List.length_set]; exact h1, h2, by simpa using h3, ?_⟩⟩, fun u hu => ?_⟩
    · rw [List.length_set, Array.toList_setIfInBounds, List.map_set, ← h4, List.take_set]
    · rcases List.mem_or_eq_of_mem_set hu with hu | rfl
      · exact h.2 u hu
      · exact hz
theorem st_key {W X : World} {R base : Nat} {pc : Int} {c v1 v2 v3 u0 u1 t0 t1 t2 : Value} {zs x1 x2 x3 : List Int} {S : Nat → Prop} {w : World} (ho : OI W base c zs) (hm : Own3 W base v1 v2 v3 x1 x2 x3) (kr : Blk W R #[u0, u1] 58) (km : Blk W (R + 1) #[t0, t1, t2] 38)
    (hT : Turn S w W) (hR : w.heap.size ≤ R)
    (hX : X = setM (setC W R (.int .i64 pc) c) (R + 1) v1 v2 v3 ∨ X = setC (setM W (R + 1) v1 v2 v3) R (.int .i64 pc) c) :
    (OI X base c zs ∧ Own3 X base v1 v2 v3 x1 x2 x3 ∧ Turn S w X) ∧
      X.cell? ⟨R, 0, none⟩ = some (.int .i64 pc) ∧ X.cell? ⟨R, 1, none⟩ = some c ∧ X.cell? ⟨R + 1, 0, none⟩ = some v1 ∧ X.cell? ⟨R + 1, 1, none⟩ = some v2 ∧ X.cell? ⟨R + 1, 2, none⟩ = some v3 := by
  have key : Turn (fun j => j = R ∨ j = R + 1) W X ∧ Blk X R #[.int .i64 pc, c] 58 ∧ Blk X (R + 1) #[v1, v2, v3] 38 := by
    rcases hX with rfl | rfl
    · refine ⟨(((turn_setg _ _ _ _).trans (turn_setg _ _ _ _)).mono (fun k e => Or.inl e)).trans ((((turn_setg _ _ _ _).trans (turn_setg _ _ _ _)).trans (turn_setg _ _ _ _)).mono (fun k e => Or.inr e)), ?_, ?_⟩
      · have k1 := ((((kr.set 0 (.int .i64 pc)).set 1 c).other ⟨R + 1, 0, none⟩ v1 (by dsimp only; omega)).other ⟨R + 1, 1, none⟩ v2 (by dsimp only; omega)).other ⟨R + 1, 2, none⟩ v3 (by dsimp only; omega)
        simpa [setC, setM] using k1
      · have k1 := ((((km.other ⟨R, 0, none⟩ (.int .i64 pc) (by dsimp only; omega)).other ⟨R, 1, none⟩ c (by dsimp only; omega)).set 0 v1).set 1 v2).set 2 v3
        simpa [setC, setM] using k1
    · refine ⟨((((turn_setg _ _ _ _).trans (turn_setg _ _ _ _)).trans (turn_setg _ _ _ _)).mono (fun k e => Or.inr e)).trans (((turn_setg _ _ _ _).trans (turn_setg _ _ _ _)).mono (fun k e => Or.inl e)), ?_, ?_⟩
      · have k1 := ((((kr.other ⟨R + 1, 0, none⟩ v1 (by dsimp only; omega)).other ⟨R + 1, 1, none⟩ v2 (by dsimp only; omega)).other ⟨R + 1, 2, none⟩ v3 (by dsimp only; omega)).set 0 (.int .i64 pc)).set 1 c
        simpa [setC, setM] using k1
      · have k1 := ((((km.set 0 v1).set 1 v2).set 2 v3).other ⟨R, 0, none⟩ (.int .i64 pc) (by dsimp only; omega)).other ⟨R, 1, none⟩ c (by dsimp only; omega)
        simpa [setC, setM] using k1
  obtain ⟨T, k1, k2⟩ := key
  have nb : ∀ {v : Value} {ys : List Int}, OB W base v ys → ∀ k, v.ownBlock = some k → ¬ (k = R ∨ k = R + 1) := fun h k hk e => by
    rcases e with e | e
    · exact ob_ne h kr (by decide) (by rw [hk, e])
    · exact ob_ne h km (by decide) (by rw [hk, e])
  have ni : ∀ k, c.ownBlock = some k → ¬ (k = R ∨ k = R + 1) := fun k hk e => by
    rcases e with e | e
    · exact oi_ne ho kr (by decide) (by rw [hk, e])
    · exact oi_ne ho km (by decide) (by rw [hk, e])
  refine ⟨⟨turn_oi T ho ni, ⟨turn_ob T hm.1 (nb hm.1), turn_ob T hm.2.1 (nb hm.2.1), turn_ob T hm.2.2.1 (nb hm.2.2.1), hm.2.2.2⟩, ⟨T.os.trans hT.os, T.tape.trans hT.tape, T.output.trans hT.output, Nat.le_trans hT.size T.size, fun k hk hs => (T.block k (Nat.lt_of_lt_of_le hk hT.size) (fun e => by rcases e with e | e <;> omega)).trans (hT.block k hk hs)⟩⟩, ?_, ?_, ?_, ?_, ?_⟩
  · rw [k1.cell]; rfl
  · rw [k1.cell]; rfl
  · rw [k2.cell]; rfl
  · rw [k2.cell]; rfl
  · rw [k2.cell]; rfl
theorem tdrew {S : Nat → Prop} {w w' : World} (h : Turn S w w') : Turn S w w'.drew := ⟨h.os, h.tape, h.output, h.size, h.block⟩
theorem st_keyd {W X : World} {R base : Nat} {pc : Int} {c v1 v2 v3 u0 u1 t0 t1 t2 : Value} {zs x1 x2 x3 : List Int} {S : Nat → Prop} {w : World} (ho : OI W base c zs) (hm : Own3 W base v1 v2 v3 x1 x2 x3) (kr : Blk W R #[u0, u1] 58) (km : Blk W (R + 1) #[t0, t1, t2] 38)
    (hT : Turn S w W) (hR : w.heap.size ≤ R)
    (hX : X = setM (setC W R (.int .i64 pc) c) (R + 1) v1 v2 v3 ∨ X = setC (setM W (R + 1) v1 v2 v3) R (.int .i64 pc) c) :
    (OI X.drew base c zs ∧ Own3 X.drew base v1 v2 v3 x1 x2 x3 ∧ Turn S w X.drew) ∧
      X.drew.cell? ⟨R, 0, none⟩ = some (.int .i64 pc) ∧ X.drew.cell? ⟨R, 1, none⟩ = some c ∧ X.drew.cell? ⟨R + 1, 0, none⟩ = some v1 ∧ X.drew.cell? ⟨R + 1, 1, none⟩ = some v2 ∧ X.drew.cell? ⟨R + 1, 2, none⟩ = some v3 := by
  obtain ⟨⟨h1, h2, h3⟩, h4⟩ := st_key ho hm kr km hT hR hX
  exact ⟨⟨h1, h2, tdrew h3⟩, h4⟩
theorem OI.blk {w : World} {base rb n cap : Nat} {zs : List Int} (h : OI w base (.slice (some ⟨rb, 0, none⟩) n cap) zs) : ∃ cur, Blk w rb cur 3 := by
  obtain ⟨hl, ⟨h0, _⟩ | ⟨g, cap', cur, hv, hg, hh, _⟩⟩ := h.1
  · cases h0
  · injection hv with hv1 hv2 hv3
    injection hv1 with hv1
    injection hv1 with hv1
    subst hv1
    exact ⟨cur, hh⟩
def lf (n1 n2 n3 : Nat) (x1 x2 : List Int) (rs : List Rg) (rn : Nat) (z s : Int) : Int := if alw rs rn z s 1 = true then (rd n1 n2 n3 x1 x2 z s).2 else 5
set_option maxHeartbeats 2000000 in
theorem l3Memory_14 (d a i : Int) (pc : Int) (rb cp : Nat) (rg : List Int) (g1 g2 g3 n1 c1 n2 c2 n3 c3 : Nat) (x1 x2 x3 : List Int) (ra : Option Addr) (rn rc : Nat) (rs : List Rg) (base : Nat) (w : World) (ho : OI w base (.slice (some ⟨rb, 0, none⟩) 8 cp) rg) (hm : Own3 w base (.slice (some ⟨g1, 0, none⟩) n1 c1) (.slice (some ⟨g2, 0, none⟩) n2 c2) (.slice (some ⟨g3, 0, none⟩) n3 c3) x1 x2 x3) (hrs : RS w ra rn rc rs) (hw : ∀ z ∈ rg, 0 ≤ z ∧ z ≤ 4294967295) (hn : n1 + n2 + n3 ≤ 1048576) (hb : base ≤ w.heap.size) (d0 : 0 ≤ d) (d1 : d < 8) (a0 : 0 ≤ a) (a7 : a < 8) (i0 : 0 ≤ i) (i1 : i ≤ 65535) :
    Calls Tryz.prog 86 #[.agg #[.int .i64 pc, .slice (some ⟨rb, 0, none⟩) 8 cp], .agg #[.slice (some ⟨g1, 0, none⟩) n1 c1, .slice (some ⟨g2, 0, none⟩) n2 c2, .slice (some ⟨g3, 0, none⟩) n3 c3], .slice ra rn rc, .agg #[.int .i64 14, .int .i64 d, .int .i64 a, .int .i64 i]] w (MmPost w base pc (.slice (some ⟨rb, 0, none⟩) 8 cp) (lf n1 n2 n3 x1 x2 rs rn (atOf rg a i) 1) (if lf n1 n2 n3 x1 x2 rs rn (atOf rg a i) 1 = 0 then rg.set d.toNat (rd n1 n2 n3 x1 x2 (atOf rg a i) 1).1 else rg) x1 x2 x3) := by
  obtain ⟨F, hF⟩ : ∃ F, F = lf n1 n2 n3 x1 x2 rs rn (atOf rg a i) 1 := ⟨_, rfl⟩
  obtain ⟨RG, hRG⟩ : ∃ RG, RG = if lf n1 n2 n3 x1 x2 rs rn (atOf rg a i) 1 = 0 then rg.set d.toNat (rd n1 n2 n3 x1 x2 (atOf rg a i) 1).1 else rg := ⟨_, rfl⟩
  rw [← hRG, ← hF]
  rw [← hF] at hRG
  unfold lf at hF
  obtain ⟨W, hW⟩ : ∃ W, W = (((((w.alloc (.cells #[.int .i64 pc, .slice (some ⟨rb, 0, none⟩) 8 cp] 58)).alloc (.cells #[.slice (some ⟨g1, 0, none⟩) n1 c1, .slice (some ⟨g2, 0, none⟩) n2 c2, .slice (some ⟨g3, 0, none⟩) n3 c3] 38)).alloc (.cells #[.int .i64 14, .int .i64 d, .int .i64 a, .int .i64 i] 124)).alloc (.cells #[.int .i64 0, .slice none 0 0] 58)).alloc (.cells #[.slice none 0 0, .slice none 0 0, .slice none 0 0] 38)) := ⟨_, rfl⟩
  have hB0 : Below w.heap.size w W := by rw [hW]; exact (((((Below.refl _ _).alloc (Nat.le_refl _) _).alloc (by simp) _).alloc (by simp; omega) _).alloc (by simp; omega) _).alloc (by simp; omega) _
  have k0 : Blk W (w.heap.size) #[.int .i64 pc, .slice (some ⟨rb, 0, none⟩) 8 cp] 58 := by
    rw [hW]
    have := ((((Blk.new w #[.int .i64 pc, .slice (some ⟨rb, 0, none⟩) 8 cp] 58).alloc (.cells #[.slice (some ⟨g1, 0, none⟩) n1 c1, .slice (some ⟨g2, 0, none⟩) n2 c2, .slice (some ⟨g3, 0, none⟩) n3 c3] 38)).alloc (.cells #[.int .i64 14, .int .i64 d, .int .i64 a, .int .i64 i] 124)).alloc (.cells #[.int .i64 0, .slice none 0 0] 58)).alloc (.cells #[.slice none 0 0, .slice none 0 0, .slice none 0 0] 38)
    simpa only [World.size_alloc] using this
  have k1 : Blk W (w.heap.size + 1) #[.slice (some ⟨g1, 0, none⟩) n1 c1, .slice (some ⟨g2, 0, none⟩) n2 c2, .slice (some ⟨g3, 0, none⟩) n3 c3] 38 := by
    rw [hW]
    have := (((Blk.new (w.alloc (.cells #[.int .i64 pc, .slice (some ⟨rb, 0, none⟩) 8 cp] 58)) #[.slice (some ⟨g1, 0, none⟩) n1 c1, .slice (some ⟨g2, 0, none⟩) n2 c2, .slice (some ⟨g3, 0, none⟩) n3 c3] 38).alloc (.cells #[.int .i64 14, .int .i64 d, .int .i64 a, .int .i64 i] 124)).alloc (.cells #[.int .i64 0, .slice none 0 0] 58)).alloc (.cells #[.slice none 0 0, .slice none 0 0, .slice none 0 0] 38)
    simpa only [World.size_alloc] using this
  have k2 : Blk W (w.heap.size + 1 + 1) #[.int .i64 14, .int .i64 d, .int .i64 a, .int .i64 i] 124 := by
    rw [hW]
    have := ((Blk.new ((w.alloc (.cells #[.int .i64 pc, .slice (some ⟨rb, 0, none⟩) 8 cp] 58)).alloc (.cells #[.slice (some ⟨g1, 0, none⟩) n1 c1, .slice (some ⟨g2, 0, none⟩) n2 c2, .slice (some ⟨g3, 0, none⟩) n3 c3] 38)) #[.int .i64 14, .int .i64 d, .int .i64 a, .int .i64 i] 124).alloc (.cells #[.int .i64 0, .slice none 0 0] 58)).alloc (.cells #[.slice none 0 0, .slice none 0 0, .slice none 0 0] 38)
    simpa only [World.size_alloc] using this
  have k3 : Blk W (w.heap.size + 1 + 1 + 1) #[.int .i64 0, .slice none 0 0] 58 := by
    rw [hW]
    have := (Blk.new (((w.alloc (.cells #[.int .i64 pc, .slice (some ⟨rb, 0, none⟩) 8 cp] 58)).alloc (.cells #[.slice (some ⟨g1, 0, none⟩) n1 c1, .slice (some ⟨g2, 0, none⟩) n2 c2, .slice (some ⟨g3, 0, none⟩) n3 c3] 38)).alloc (.cells #[.int .i64 14, .int .i64 d, .int .i64 a, .int .i64 i] 124)) #[.int .i64 0, .slice none 0 0] 58).alloc (.cells #[.slice none 0 0, .slice none 0 0, .slice none 0 0] 38)
    simpa only [World.size_alloc] using this
  have k4 : Blk W (w.heap.size + 1 + 1 + 1 + 1) #[.slice none 0 0, .slice none 0 0, .slice none 0 0] 38 := by
    rw [hW]
    have := Blk.new ((((w.alloc (.cells #[.int .i64 pc, .slice (some ⟨rb, 0, none⟩) 8 cp] 58)).alloc (.cells #[.slice (some ⟨g1, 0, none⟩) n1 c1, .slice (some ⟨g2, 0, none⟩) n2 c2, .slice (some ⟨g3, 0, none⟩) n3 c3] 38)).alloc (.cells #[.int .i64 14, .int .i64 d, .int .i64 a, .int .i64 i] 124)).alloc (.cells #[.int .i64 0, .slice none 0 0] 58)) #[.slice none 0 0, .slice none 0 0, .slice none 0 0] 38
    simpa only [World.size_alloc] using this
  have O0 := ho.below hB0
  have M0 := own3_below hm hB0
  have R0 := hrs.below hB0
  have hl := ho.is.1
  have hza := hw (rg.getD a.toNat 0) (by rw [List.getD_eq_getElem?_getD, List.getElem?_eq_getElem (show a.toNat < rg.length by omega)]; exact List.getElem_mem _)
  have hzd := hw (rg.getD d.toNat 0) (by rw [List.getD_eq_getElem?_getD, List.getElem?_eq_getElem (show d.toNat < rg.length by omega)]; exact List.getElem_mem _)
  have ca := O0.is.at a.toNat (by omega)
  simp only [Nat.zero_add] at ca
  obtain ⟨za0, za1⟩ := hza
  obtain ⟨u0, u1⟩ := atOf_range rg a i
  obtain ⟨xi0, xi1⟩ := wide_range i i0 i1
  have HAT := hide (show (rg.getD a.toNat 0 + wide i) % 4294967296 = atOf rg a i from rfl)
  have HWD := hide (fun w => l3Wide_any i w i0 i1)
  have hrr := rd_range n1 n2 n3 x1 x2 (atOf rg a i) 1 hm.1.2 hm.2.1.2
  generalize atOf rg a i = z at *
  generalize rg.getD a.toNat 0 = y at *
  generalize wide i = x at *
  have HWR := hide (show IntKind.i64.wrap (y + x) = y + x by rw [IntKind.wrap_i64]; omega)
  have HWO := hide (fun w => l1Word_any (y + x) w ⟨by omega, by omega⟩)
  rw [HAT.out] at HWO
  have HAL := hide (fun w h => sAllowed_any ra rn rc rs z 1 1 w h ⟨by omega, by omega⟩)
  have ne0 : w.heap.size ≠ w.heap.size + 1 := by omega
  have ne1 : w.heap.size ≠ w.heap.size + 1 + 1 := by omega
  have ne2 : w.heap.size ≠ w.heap.size + 1 + 1 + 1 := by omega
  have ne3 : w.heap.size ≠ w.heap.size + 1 + 1 + 1 + 1 := by omega
  have ne4 : w.heap.size + 1 ≠ w.heap.size := by omega
  have ne5 : w.heap.size + 1 ≠ w.heap.size + 1 + 1 := by omega
  have ne6 : w.heap.size + 1 ≠ w.heap.size + 1 + 1 + 1 := by omega
  have ne7 : w.heap.size + 1 ≠ w.heap.size + 1 + 1 + 1 + 1 := by omega
  have ne8 : w.heap.size + 1 + 1 ≠ w.heap.size := by omega
  have ne9 : w.heap.size + 1 + 1 ≠ w.heap.size + 1 := by omega
  have ne10 : w.heap.size + 1 + 1 ≠ w.heap.size + 1 + 1 + 1 := by omega
  have ne11 : w.heap.size + 1 + 1 ≠ w.heap.size + 1 + 1 + 1 + 1 := by omega
  have ne12 : w.heap.size + 1 + 1 + 1 ≠ w.heap.size := by omega
  have ne13 : w.heap.size + 1 + 1 + 1 ≠ w.heap.size + 1 := by omega
  have ne14 : w.heap.size + 1 + 1 + 1 ≠ w.heap.size + 1 + 1 := by omega
  have ne15 : w.heap.size + 1 + 1 + 1 ≠ w.heap.size + 1 + 1 + 1 + 1 := by omega
  have ne16 : w.heap.size + 1 + 1 + 1 + 1 ≠ w.heap.size := by omega
  have ne17 : w.heap.size + 1 + 1 + 1 + 1 ≠ w.heap.size + 1 := by omega
  have ne18 : w.heap.size + 1 + 1 + 1 + 1 ≠ w.heap.size + 1 + 1 := by omega
  have ne19 : w.heap.size + 1 + 1 + 1 + 1 ≠ w.heap.size + 1 + 1 + 1 := by omega
  have HRD := hide (fun w h1 h2 => sRead_any (some ⟨g1, 0, none⟩) (some ⟨g2, 0, none⟩) (some ⟨g3, 0, none⟩) n1 c1 n2 c2 n3 c3 x1 x2 x3 z 1 w h1 h2 (by omega))
  generalize alw rs rn z 1 1 = AL at *
  generalize rd n1 n2 n3 x1 x2 z 1 = R at *
  obtain ⟨v, f⟩ := R
  dsimp only at hF hRG hrr HRD
  have HF := hide hF
  have HRG := hide hRG
  clear hF hRG
  have lt0 := k0.lt
  have lt1 := k1.lt
  have lt2 := k2.lt
  have lt3 := k3.lt
  have lt4 := k4.lt
  obtain ⟨e1, e2, e3⟩ := k0.two'
  obtain ⟨f1, f2, f3, f4⟩ := k1.three
  obtain ⟨j1, j2, j3, j4, j5⟩ := k2.four'
  go_enter Tryz.func86, Tryz.ntmps86
  go_wp2_with fail
  rw [← hW]
  clear hW
  go_region_held3 (fun w' => w'.cell? ⟨w.heap.size, 1, none⟩ = some (.slice (some ⟨rb, 0, none⟩) 8 cp) ∧ w'.cell? ⟨w.heap.size + 1 + 1, 2, none⟩ = some (.int .i64 a) ∧ w'.cell? ⟨w.heap.size + 1 + 1, 3, none⟩ = some (.int .i64 i) ∧ w'.cell? ⟨rb, a.toNat, none⟩ = some (.int .i64 y)) (go_keep)
    (first
      | (go_at_call 89; refine (HWD.out _).mono ?_; rintro e w1 ⟨rfl, rfl⟩)
      | (go_at_call 72; rw [HWR.out]; refine (HWO.out _).mono ?_; rintro e w1 ⟨rfl, rfl⟩))
  all_goals
    have KX := Blk.new W #[.int .i64 1, .int .i64 2, .int .i64 4] 3
    go_wp2_with fail
    have hV : Below W.heap.size W (W.alloc (.cells #[.int .i64 1, .int .i64 2, .int .i64 4] 3)).drew := ((Below.refl _ _).alloc (Nat.le_refl _) _).drew
    refine (HAL.out _ (by exact R0.below hV)).mono ?_
    rintro e w1 ⟨rfl, hb1⟩
    have b1 : Below W.heap.size W w1 := hV.trans (hb1.mono hV.size)
    have r0 := k0.below b1
    have r1 := k1.below b1
    have r2 := k2.below b1
    have r3 := k3.below b1
    have r4 := k4.below b1
    have M2 := own3_below M0 b1
    have O2 := O0.below b1
    have T2 : Turn (fun j => (Value.slice (some ⟨rb, 0, none⟩) 8 cp).ownBlock = some j) w w1 := turn_below (hB0.trans (b1.mono hB0.size))
    clear hb1 hV b1 k0 k1 k2 k3 k4 M0 O0 hB0 e1 e2 e3 f1 f2 f3 f4 j1 j2 j3 j4 j5 ca KX R0 lt0 lt1 lt2 lt3 lt4
    cases AL
    · have hf : F = 5 := HF.out
      have hg : RG = rg := by rw [HRG.out, hf, if_neg (by omega)]
      subst hf hg
      obtain ⟨fA, ya0, ya1, ya2, ya3, ya4⟩ := st_keyd (pc := pc) O2 M2 r3 r4 T2 (by omega) (Or.inl rfl)
      obtain ⟨fB, yb0, yb1, yb2, yb3, yb4⟩ := st_keyd (pc := pc) O2 M2 r3 r4 T2 (by omega) (Or.inr rfl)
      simp only [setC, setM] at fA ya0 ya1 ya2 ya3 ya4 fB yb0 yb1 yb2 yb3 yb4
      have FA := hide fA
      have FB := hide fB
      obtain ⟨t1, t2, t3⟩ := r0.two'
      obtain ⟨s1, s2, s3, s4⟩ := r1.three
      obtain ⟨z1, z2, z3⟩ := r3.two'
      obtain ⟨z4, z5, z6, z7⟩ := r4.three
      clear fA fB
      go_wp2
      go_region
      all_goals
        go_wp2
        exact bodyPost_ret (v := .tuple #[.agg #[.int .i64 pc, .slice (some ⟨rb, 0, none⟩) 8 cp], .agg #[.slice (some ⟨g1, 0, none⟩) n1 c1, .slice (some ⟨g2, 0, none⟩) n2 c2, .slice (some ⟨g3, 0, none⟩) n3 c3], .int .i64 5]) (by first | (simp [results, Tryz.results86, go_sem, ya0, ya1, ya2, ya3, ya4]; done) | (simp [results, Tryz.results86, go_sem, yb0, yb1, yb2, yb3, yb4]; done)) rfl
          ⟨_, _, _, _, _, _, _, _, _, rfl, by first | exact FA.out.1 | exact FB.out.1, by first | exact FA.out.2.1 | exact FB.out.2.1, by first | exact FA.out.2.2 | exact FB.out.2.2⟩

    · have hf : F = f := HF.out
      obtain ⟨s1, s2, s3, s4⟩ := r1.three
      go_wp2_with fail
      refine (HRD.out _ M2.1.bs M2.2.1.bs).mono ?_
      rintro e w2 ⟨rfl, hb2⟩
      replace r0 := r0.below hb2
      replace r1 := r1.below hb2
      replace r2 := r2.below hb2
      replace r3 := r3.below hb2
      replace r4 := r4.below hb2
      replace M2 := own3_below M2 hb2
      replace O2 := O2.below hb2
      replace T2 := T2.trans (turn_below hb2)
      clear hb2 s1 s2 s3 s4
      by_cases hq : f = 0
      · have hg : RG = rg.set d.toNat v := by rw [HRG.out, hf, if_pos hq]
        have hf0 : F = 0 := hf.trans hq
        subst hq
        subst hf0 hg
        clear hf HF HRG
        obtain ⟨cur, kc⟩ := O2.blk
        have cd := O2.is.at d.toNat (by omega)
        simp only [Nat.zero_add] at cd
        have cf := kc.frozen d.toNat
        obtain ⟨v0, v1⟩ := hrr
        have O3 := O2.set d.toNat (by omega) v ⟨by omega, by omega⟩
        have tt : Turn (fun j => j = rb) w2 (w2.setCell ⟨rb, d.toNat, none⟩ (.int .i64 v)) := turn_setg _ _ _ _
        have T3 := T2.trans (tt.mono (fun j e => by have e' : j = rb := e; show some rb = some j; rw [e']))
        have nb : ∀ {u : Value} {ys : List Int}, OB w2 base u ys → ∀ k, u.ownBlock = some k → ¬ (k = rb) := fun h k hk e => ob_ne h kc (by decide) (by rw [hk, e])
        have M3 : Own3 (w2.setCell ⟨rb, d.toNat, none⟩ (.int .i64 v)) base (.slice (some ⟨g1, 0, none⟩) n1 c1) (.slice (some ⟨g2, 0, none⟩) n2 c2) (.slice (some ⟨g3, 0, none⟩) n3 c3) x1 x2 x3 := ⟨turn_ob tt M2.1 (nb M2.1), turn_ob tt M2.2.1 (nb M2.2.1), turn_ob tt M2.2.2.1 (nb M2.2.2.1), M2.2.2.2⟩
        have nr : ∀ {G : Nat} {u : Array Value} {t : TypeId}, Blk w2 G u t → t ≠ 3 → G ≠ rb := fun h ht e => by
          subst e
          unfold Blk at h kc
          rw [kc] at h
          simp at h
          exact ht h.2.symm
        have a0' := nr r0 (by decide)
        have a1' := nr r1 (by decide)
        have a2' := nr r2 (by decide)
        have a3' := nr r3 (by decide)
        have a4' := nr r4 (by decide)
        have p0' := r0
        obtain ⟨t1, t2, t3⟩ := r0.two'
        obtain ⟨l1, l2, l3, l4, l5⟩ := r2.four'
        replace r0 := r0.other ⟨rb, d.toNat, none⟩ (.int .i64 v) a0'
        replace r1 := r1.other ⟨rb, d.toNat, none⟩ (.int .i64 v) a1'
        replace r3 := r3.other ⟨rb, d.toNat, none⟩ (.int .i64 v) a3'
        replace r4 := r4.other ⟨rb, d.toNat, none⟩ (.int .i64 v) a4'
        generalize rg.getD d.toNat 0 = yd at *
        clear M2 O2 T2 tt kc
        have M2 := M3
        obtain ⟨fA, ya0, ya1, ya2, ya3, ya4⟩ := st_keyd (pc := pc) O3 M2 r3 r4 T3 (by omega) (Or.inl rfl)
        obtain ⟨fB, yb0, yb1, yb2, yb3, yb4⟩ := st_keyd (pc := pc) O3 M2 r3 r4 T3 (by omega) (Or.inr rfl)
        simp only [setC, setM] at fA ya0 ya1 ya2 ya3 ya4 fB yb0 yb1 yb2 yb3 yb4
        have FA := hide fA
        have FB := hide fB
        obtain ⟨t1, t2, t3⟩ := r0.two'
        obtain ⟨s1, s2, s3, s4⟩ := r1.three
        obtain ⟨z1, z2, z3⟩ := r3.two'
        obtain ⟨z4, z5, z6, z7⟩ := r4.three
        clear fA fB
        go_wp2
        go_region
        all_goals
          go_wp2
          exact bodyPost_ret (v := .tuple #[.agg #[.int .i64 pc, .slice (some ⟨rb, 0, none⟩) 8 cp], .agg #[.slice (some ⟨g1, 0, none⟩) n1 c1, .slice (some ⟨g2, 0, none⟩) n2 c2, .slice (some ⟨g3, 0, none⟩) n3 c3], .int .i64 0]) (by first | (simp [results, Tryz.results86, go_sem, ya0, ya1, ya2, ya3, ya4]; done) | (simp [results, Tryz.results86, go_sem, yb0, yb1, yb2, yb3, yb4]; done)) rfl
            ⟨_, _, _, _, _, _, _, _, _, rfl, by first | exact FA.out.1 | exact FB.out.1, by first | exact FA.out.2.1 | exact FB.out.2.1, by first | exact FA.out.2.2 | exact FB.out.2.2⟩

      · have hg : RG = rg := by rw [HRG.out, hf, if_neg hq]
        subst hg
        obtain rfl : f = F := hf.symm
        have hq' : (f == 0) = false := by simpa using hq
        obtain ⟨fA, ya0, ya1, ya2, ya3, ya4⟩ := st_keyd (pc := pc) O2 M2 r3 r4 T2 (by omega) (Or.inl rfl)
        obtain ⟨fB, yb0, yb1, yb2, yb3, yb4⟩ := st_keyd (pc := pc) O2 M2 r3 r4 T2 (by omega) (Or.inr rfl)
        simp only [setC, setM] at fA ya0 ya1 ya2 ya3 ya4 fB yb0 yb1 yb2 yb3 yb4
        have FA := hide fA
        have FB := hide fB
        obtain ⟨t1, t2, t3⟩ := r0.two'
        obtain ⟨s1, s2, s3, s4⟩ := r1.three
        obtain ⟨z1, z2, z3⟩ := r3.two'
        obtain ⟨z4, z5, z6, z7⟩ := r4.three
        clear fA fB
        go_wp2
        go_region
        all_goals
          go_wp2
          exact bodyPost_ret (v := .tuple #[.agg #[.int .i64 pc, .slice (some ⟨rb, 0, none⟩) 8 cp], .agg #[.slice (some ⟨g1, 0, none⟩) n1 c1, .slice (some ⟨g2, 0, none⟩) n2 c2, .slice (some ⟨g3, 0, none⟩) n3 c3], .int .i64 f]) (by first | (simp [results, Tryz.results86, go_sem, ya0, ya1, ya2, ya3, ya4]; done) | (simp [results, Tryz.results86, go_sem, yb0, yb1, yb2, yb3, yb4]; done)) rfl
            ⟨_, _, _, _, _, _, _, _, _, rfl, by first | exact FA.out.1 | exact FB.out.1, by first | exact FA.out.2.1 | exact FB.out.2.1, by first | exact FA.out.2.2 | exact FB.out.2.2⟩

set_option maxHeartbeats 2000000 in
theorem l3Memory_15 (d a i : Int) (pc : Int) (rb cp : Nat) (rg : List Int) (g1 g2 g3 n1 c1 n2 c2 n3 c3 : Nat) (x1 x2 x3 : List Int) (ra : Option Addr) (rn rc : Nat) (rs : List Rg) (base : Nat) (w : World) (ho : OI w base (.slice (some ⟨rb, 0, none⟩) 8 cp) rg) (hm : Own3 w base (.slice (some ⟨g1, 0, none⟩) n1 c1) (.slice (some ⟨g2, 0, none⟩) n2 c2) (.slice (some ⟨g3, 0, none⟩) n3 c3) x1 x2 x3) (hrs : RS w ra rn rc rs) (hw : ∀ z ∈ rg, 0 ≤ z ∧ z ≤ 4294967295) (hn : n1 + n2 + n3 ≤ 1048576) (hb : base ≤ w.heap.size) (d0 : 0 ≤ d) (d1 : d < 8) (a0 : 0 ≤ a) (a7 : a < 8) (i0 : 0 ≤ i) (i1 : i ≤ 65535) :
    Calls Tryz.prog 86 #[.agg #[.int .i64 pc, .slice (some ⟨rb, 0, none⟩) 8 cp], .agg #[.slice (some ⟨g1, 0, none⟩) n1 c1, .slice (some ⟨g2, 0, none⟩) n2 c2, .slice (some ⟨g3, 0, none⟩) n3 c3], .slice ra rn rc, .agg #[.int .i64 15, .int .i64 d, .int .i64 a, .int .i64 i]] w (MmPost w base pc (.slice (some ⟨rb, 0, none⟩) 8 cp) (lf n1 n2 n3 x1 x2 rs rn (atOf rg a i) 2) (if lf n1 n2 n3 x1 x2 rs rn (atOf rg a i) 2 = 0 then rg.set d.toNat (rd n1 n2 n3 x1 x2 (atOf rg a i) 2).1 else rg) x1 x2 x3) := by
  obtain ⟨F, hF⟩ : ∃ F, F = lf n1 n2 n3 x1 x2 rs rn (atOf rg a i) 2 := ⟨_, rfl⟩
  obtain ⟨RG, hRG⟩ : ∃ RG, RG = if lf n1 n2 n3 x1 x2 rs rn (atOf rg a i) 2 = 0 then rg.set d.toNat (rd n1 n2 n3 x1 x2 (atOf rg a i) 2).1 else rg := ⟨_, rfl⟩
  rw [← hRG, ← hF]
  rw [← hF] at hRG
  unfold lf at hF
  obtain ⟨W, hW⟩ : ∃ W, W = (((((w.alloc (.cells #[.int .i64 pc, .slice (some ⟨rb, 0, none⟩) 8 cp] 58)).alloc (.cells #[.slice (some ⟨g1, 0, none⟩) n1 c1, .slice (some ⟨g2, 0, none⟩) n2 c2, .slice (some ⟨g3, 0, none⟩) n3 c3] 38)).alloc (.cells #[.int .i64 15, .int .i64 d, .int .i64 a, .int .i64 i] 124)).alloc (.cells #[.int .i64 0, .slice none 0 0] 58)).alloc (.cells #[.slice none 0 0, .slice none 0 0, .slice none 0 0] 38)) := ⟨_, rfl⟩
  have hB0 : Below w.heap.size w W := by rw [hW]; exact (((((Below.refl _ _).alloc (Nat.le_refl _) _).alloc (by simp) _).alloc (by simp; omega) _).alloc (by simp; omega) _).alloc (by simp; omega) _
  have k0 : Blk W (w.heap.size) #[.int .i64 pc, .slice (some ⟨rb, 0, none⟩) 8 cp] 58 := by
    rw [hW]
    have := ((((Blk.new w #[.int .i64 pc, .slice (some ⟨rb, 0, none⟩) 8 cp] 58).alloc (.cells #[.slice (some ⟨g1, 0, none⟩) n1 c1, .slice (some ⟨g2, 0, none⟩) n2 c2, .slice (some ⟨g3, 0, none⟩) n3 c3] 38)).alloc (.cells #[.int .i64 15, .int .i64 d, .int .i64 a, .int .i64 i] 124)).alloc (.cells #[.int .i64 0, .slice none 0 0] 58)).alloc (.cells #[.slice none 0 0, .slice none 0 0, .slice none 0 0] 38)
    simpa only [World.size_alloc] using this
  have k1 : Blk W (w.heap.size + 1) #[.slice (some ⟨g1, 0, none⟩) n1 c1, .slice (some ⟨g2, 0, none⟩) n2 c2, .slice (some ⟨g3, 0, none⟩) n3 c3] 38 := by
    rw [hW]
    have := (((Blk.new (w.alloc (.cells #[.int .i64 pc, .slice (some ⟨rb, 0, none⟩) 8 cp] 58)) #[.slice (some ⟨g1, 0, none⟩) n1 c1, .slice (some ⟨g2, 0, none⟩) n2 c2, .slice (some ⟨g3, 0, none⟩) n3 c3] 38).alloc (.cells #[.int .i64 15, .int .i64 d, .int .i64 a, .int .i64 i] 124)).alloc (.cells #[.int .i64 0, .slice none 0 0] 58)).alloc (.cells #[.slice none 0 0, .slice none 0 0, .slice none 0 0] 38)
    simpa only [World.size_alloc] using this
  have k2 : Blk W (w.heap.size + 1 + 1) #[.int .i64 15, .int .i64 d, .int .i64 a, .int .i64 i] 124 := by
    rw [hW]
    have := ((Blk.new ((w.alloc (.cells #[.int .i64 pc, .slice (some ⟨rb, 0, none⟩) 8 cp] 58)).alloc (.cells #[.slice (some ⟨g1, 0, none⟩) n1 c1, .slice (some ⟨g2, 0, none⟩) n2 c2, .slice (some ⟨g3, 0, none⟩) n3 c3] 38)) #[.int .i64 15, .int .i64 d, .int .i64 a, .int .i64 i] 124).alloc (.cells #[.int .i64 0, .slice none 0 0] 58)).alloc (.cells #[.slice none 0 0, .slice none 0 0, .slice none 0 0] 38)
    simpa only [World.size_alloc] using this
  have k3 : Blk W (w.heap.size + 1 + 1 + 1) #[.int .i64 0, .slice none 0 0] 58 := by
    rw [hW]
    have := (Blk.new (((w.alloc (.cells #[.int .i64 pc, .slice (some ⟨rb, 0, none⟩) 8 cp] 58)).alloc (.cells #[.slice (some ⟨g1, 0, none⟩) n1 c1, .slice (some ⟨g2, 0, none⟩) n2 c2, .slice (some ⟨g3, 0, none⟩) n3 c3] 38)).alloc (.cells #[.int .i64 15, .int .i64 d, .int .i64 a, .int .i64 i] 124)) #[.int .i64 0, .slice none 0 0] 58).alloc (.cells #[.slice none 0 0, .slice none 0 0, .slice none 0 0] 38)
    simpa only [World.size_alloc] using this
  have k4 : Blk W (w.heap.size + 1 + 1 + 1 + 1) #[.slice none 0 0, .slice none 0 0, .slice none 0 0] 38 := by
    rw [hW]
    have := Blk.new ((((w.alloc (.cells #[.int .i64 pc, .slice (some ⟨rb, 0, none⟩) 8 cp] 58)).alloc (.cells #[.slice (some ⟨g1, 0, none⟩) n1 c1, .slice (some ⟨g2, 0, none⟩) n2 c2, .slice (some ⟨g3, 0, none⟩) n3 c3] 38)).alloc (.cells #[.int .i64 15, .int .i64 d, .int .i64 a, .int .i64 i] 124)).alloc (.cells #[.int .i64 0, .slice none 0 0] 58)) #[.slice none 0 0, .slice none 0 0, .slice none 0 0] 38
    simpa only [World.size_alloc] using this
  have O0 := ho.below hB0
  have M0 := own3_below hm hB0
  have R0 := hrs.below hB0
  have hl := ho.is.1
  have hza := hw (rg.getD a.toNat 0) (by rw [List.getD_eq_getElem?_getD, List.getElem?_eq_getElem (show a.toNat < rg.length by omega)]; exact List.getElem_mem _)
  have hzd := hw (rg.getD d.toNat 0) (by rw [List.getD_eq_getElem?_getD, List.getElem?_eq_getElem (show d.toNat < rg.length by omega)]; exact List.getElem_mem _)
  have ca := O0.is.at a.toNat (by omega)
  simp only [Nat.zero_add] at ca
  obtain ⟨za0, za1⟩ := hza
  obtain ⟨u0, u1⟩ := atOf_range rg a i
  obtain ⟨xi0, xi1⟩ := wide_range i i0 i1
  have HAT := hide (show (rg.getD a.toNat 0 + wide i) % 4294967296 = atOf rg a i from rfl)
  have HWD := hide (fun w => l3Wide_any i w i0 i1)
  have hrr := rd_range n1 n2 n3 x1 x2 (atOf rg a i) 2 hm.1.2 hm.2.1.2
  generalize atOf rg a i = z at *
  generalize rg.getD a.toNat 0 = y at *
  generalize wide i = x at *
  have HWR := hide (show IntKind.i64.wrap (y + x) = y + x by rw [IntKind.wrap_i64]; omega)
  have HWO := hide (fun w => l1Word_any (y + x) w ⟨by omega, by omega⟩)
  rw [HAT.out] at HWO
  have HAL := hide (fun w h => sAllowed_any ra rn rc rs z 2 1 w h ⟨by omega, by omega⟩)
  have ne0 : w.heap.size ≠ w.heap.size + 1 := by omega
  have ne1 : w.heap.size ≠ w.heap.size + 1 + 1 := by omega
  have ne2 : w.heap.size ≠ w.heap.size + 1 + 1 + 1 := by omega
  have ne3 : w.heap.size ≠ w.heap.size + 1 + 1 + 1 + 1 := by omega
  have ne4 : w.heap.size + 1 ≠ w.heap.size := by omega
  have ne5 : w.heap.size + 1 ≠ w.heap.size + 1 + 1 := by omega
  have ne6 : w.heap.size + 1 ≠ w.heap.size + 1 + 1 + 1 := by omega
  have ne7 : w.heap.size + 1 ≠ w.heap.size + 1 + 1 + 1 + 1 := by omega
  have ne8 : w.heap.size + 1 + 1 ≠ w.heap.size := by omega
  have ne9 : w.heap.size + 1 + 1 ≠ w.heap.size + 1 := by omega
  have ne10 : w.heap.size + 1 + 1 ≠ w.heap.size + 1 + 1 + 1 := by omega
  have ne11 : w.heap.size + 1 + 1 ≠ w.heap.size + 1 + 1 + 1 + 1 := by omega
  have ne12 : w.heap.size + 1 + 1 + 1 ≠ w.heap.size := by omega
  have ne13 : w.heap.size + 1 + 1 + 1 ≠ w.heap.size + 1 := by omega
  have ne14 : w.heap.size + 1 + 1 + 1 ≠ w.heap.size + 1 + 1 := by omega
  have ne15 : w.heap.size + 1 + 1 + 1 ≠ w.heap.size + 1 + 1 + 1 + 1 := by omega
  have ne16 : w.heap.size + 1 + 1 + 1 + 1 ≠ w.heap.size := by omega
  have ne17 : w.heap.size + 1 + 1 + 1 + 1 ≠ w.heap.size + 1 := by omega
  have ne18 : w.heap.size + 1 + 1 + 1 + 1 ≠ w.heap.size + 1 + 1 := by omega
  have ne19 : w.heap.size + 1 + 1 + 1 + 1 ≠ w.heap.size + 1 + 1 + 1 := by omega
  have HRD := hide (fun w h1 h2 => sRead_any (some ⟨g1, 0, none⟩) (some ⟨g2, 0, none⟩) (some ⟨g3, 0, none⟩) n1 c1 n2 c2 n3 c3 x1 x2 x3 z 2 w h1 h2 (by omega))
  generalize alw rs rn z 2 1 = AL at *
  generalize rd n1 n2 n3 x1 x2 z 2 = R at *
  obtain ⟨v, f⟩ := R
  dsimp only at hF hRG hrr HRD
  have HF := hide hF
  have HRG := hide hRG
  clear hF hRG
  have lt0 := k0.lt
  have lt1 := k1.lt
  have lt2 := k2.lt
  have lt3 := k3.lt
  have lt4 := k4.lt
  obtain ⟨e1, e2, e3⟩ := k0.two'
  obtain ⟨f1, f2, f3, f4⟩ := k1.three
  obtain ⟨j1, j2, j3, j4, j5⟩ := k2.four'
  go_enter Tryz.func86, Tryz.ntmps86
  go_wp2_with fail
  rw [← hW]
  clear hW
  go_region_held3 (fun w' => w'.cell? ⟨w.heap.size, 1, none⟩ = some (.slice (some ⟨rb, 0, none⟩) 8 cp) ∧ w'.cell? ⟨w.heap.size + 1 + 1, 2, none⟩ = some (.int .i64 a) ∧ w'.cell? ⟨w.heap.size + 1 + 1, 3, none⟩ = some (.int .i64 i) ∧ w'.cell? ⟨rb, a.toNat, none⟩ = some (.int .i64 y)) (go_keep)
    (first
      | (go_at_call 89; refine (HWD.out _).mono ?_; rintro e w1 ⟨rfl, rfl⟩)
      | (go_at_call 72; rw [HWR.out]; refine (HWO.out _).mono ?_; rintro e w1 ⟨rfl, rfl⟩))
  all_goals
    have KX := Blk.new W #[.int .i64 1, .int .i64 2, .int .i64 4] 3
    go_wp2_with fail
    have hV : Below W.heap.size W (W.alloc (.cells #[.int .i64 1, .int .i64 2, .int .i64 4] 3)).drew := ((Below.refl _ _).alloc (Nat.le_refl _) _).drew
    refine (HAL.out _ (by exact R0.below hV)).mono ?_
    rintro e w1 ⟨rfl, hb1⟩
    have b1 : Below W.heap.size W w1 := hV.trans (hb1.mono hV.size)
    have r0 := k0.below b1
    have r1 := k1.below b1
    have r2 := k2.below b1
    have r3 := k3.below b1
    have r4 := k4.below b1
    have M2 := own3_below M0 b1
    have O2 := O0.below b1
    have T2 : Turn (fun j => (Value.slice (some ⟨rb, 0, none⟩) 8 cp).ownBlock = some j) w w1 := turn_below (hB0.trans (b1.mono hB0.size))
    clear hb1 hV b1 k0 k1 k2 k3 k4 M0 O0 hB0 e1 e2 e3 f1 f2 f3 f4 j1 j2 j3 j4 j5 ca KX R0 lt0 lt1 lt2 lt3 lt4
    cases AL
    · have hf : F = 5 := HF.out
      have hg : RG = rg := by rw [HRG.out, hf, if_neg (by omega)]
      subst hf hg
      obtain ⟨fA, ya0, ya1, ya2, ya3, ya4⟩ := st_keyd (pc := pc) O2 M2 r3 r4 T2 (by omega) (Or.inl rfl)
      obtain ⟨fB, yb0, yb1, yb2, yb3, yb4⟩ := st_keyd (pc := pc) O2 M2 r3 r4 T2 (by omega) (Or.inr rfl)
      simp only [setC, setM] at fA ya0 ya1 ya2 ya3 ya4 fB yb0 yb1 yb2 yb3 yb4
      have FA := hide fA
      have FB := hide fB
      obtain ⟨t1, t2, t3⟩ := r0.two'
      obtain ⟨s1, s2, s3, s4⟩ := r1.three
      obtain ⟨z1, z2, z3⟩ := r3.two'
      obtain ⟨z4, z5, z6, z7⟩ := r4.three
      clear fA fB
      go_wp2
      go_region
      all_goals
        go_wp2
        exact bodyPost_ret (v := .tuple #[.agg #[.int .i64 pc, .slice (some ⟨rb, 0, none⟩) 8 cp], .agg #[.slice (some ⟨g1, 0, none⟩) n1 c1, .slice (some ⟨g2, 0, none⟩) n2 c2, .slice (some ⟨g3, 0, none⟩) n3 c3], .int .i64 5]) (by first | (simp [results, Tryz.results86, go_sem, ya0, ya1, ya2, ya3, ya4]; done) | (simp [results, Tryz.results86, go_sem, yb0, yb1, yb2, yb3, yb4]; done)) rfl
          ⟨_, _, _, _, _, _, _, _, _, rfl, by first | exact FA.out.1 | exact FB.out.1, by first | exact FA.out.2.1 | exact FB.out.2.1, by first | exact FA.out.2.2 | exact FB.out.2.2⟩

    · have hf : F = f := HF.out
      obtain ⟨s1, s2, s3, s4⟩ := r1.three
      go_wp2_with fail
      refine (HRD.out _ M2.1.bs M2.2.1.bs).mono ?_
      rintro e w2 ⟨rfl, hb2⟩
      replace r0 := r0.below hb2
      replace r1 := r1.below hb2
      replace r2 := r2.below hb2
      replace r3 := r3.below hb2
      replace r4 := r4.below hb2
      replace M2 := own3_below M2 hb2
      replace O2 := O2.below hb2
      replace T2 := T2.trans (turn_below hb2)
      clear hb2 s1 s2 s3 s4
      by_cases hq : f = 0
      · have hg : RG = rg.set d.toNat v := by rw [HRG.out, hf, if_pos hq]
        have hf0 : F = 0 := hf.trans hq
        subst hq
        subst hf0 hg
        clear hf HF HRG
        obtain ⟨cur, kc⟩ := O2.blk
        have cd := O2.is.at d.toNat (by omega)
        simp only [Nat.zero_add] at cd
        have cf := kc.frozen d.toNat
        obtain ⟨v0, v1⟩ := hrr
        have O3 := O2.set d.toNat (by omega) v ⟨by omega, by omega⟩
        have tt : Turn (fun j => j = rb) w2 (w2.setCell ⟨rb, d.toNat, none⟩ (.int .i64 v)) := turn_setg _ _ _ _
        have T3 := T2.trans (tt.mono (fun j e => by have e' : j = rb := e; show some rb = some j; rw [e']))
        have nb : ∀ {u : Value} {ys : List Int}, OB w2 base u ys → ∀ k, u.ownBlock = some k → ¬ (k = rb) := fun h k hk e => ob_ne h kc (by decide) (by rw [hk, e])
        have M3 : Own3 (w2.setCell ⟨rb, d.toNat, none⟩ (.int .i64 v)) base (.slice (some ⟨g1, 0, none⟩) n1 c1) (.slice (some ⟨g2, 0, none⟩) n2 c2) (.slice (some ⟨g3, 0, none⟩) n3 c3) x1 x2 x3 := ⟨turn_ob tt M2.1 (nb M2.1), turn_ob tt M2.2.1 (nb M2.2.1), turn_ob tt M2.2.2.1 (nb M2.2.2.1), M2.2.2.2⟩
        have nr : ∀ {G : Nat} {u : Array Value} {t : TypeId}, Blk w2 G u t → t ≠ 3 → G ≠ rb := fun h ht e => by
          subst e
          unfold Blk at h kc
          rw [kc] at h
          simp at h
          exact ht h.2.symm
        have a0' := nr r0 (by decide)
        have a1' := nr r1 (by decide)
        have a2' := nr r2 (by decide)
        have a3' := nr r3 (by decide)
        have a4' := nr r4 (by decide)
        have p0' := r0
        obtain ⟨t1, t2, t3⟩ := r0.two'
        obtain ⟨l1, l2, l3, l4, l5⟩ := r2.four'
        replace r0 := r0.other ⟨rb, d.toNat, none⟩ (.int .i64 v) a0'
        replace r1 := r1.other ⟨rb, d.toNat, none⟩ (.int .i64 v) a1'
        replace r3 := r3.other ⟨rb, d.toNat, none⟩ (.int .i64 v) a3'
        replace r4 := r4.other ⟨rb, d.toNat, none⟩ (.int .i64 v) a4'
        generalize rg.getD d.toNat 0 = yd at *
        clear M2 O2 T2 tt kc
        have M2 := M3
        obtain ⟨fA, ya0, ya1, ya2, ya3, ya4⟩ := st_keyd (pc := pc) O3 M2 r3 r4 T3 (by omega) (Or.inl rfl)
        obtain ⟨fB, yb0, yb1, yb2, yb3, yb4⟩ := st_keyd (pc := pc) O3 M2 r3 r4 T3 (by omega) (Or.inr rfl)
        simp only [setC, setM] at fA ya0 ya1 ya2 ya3 ya4 fB yb0 yb1 yb2 yb3 yb4
        have FA := hide fA
        have FB := hide fB
        obtain ⟨t1, t2, t3⟩ := r0.two'
        obtain ⟨s1, s2, s3, s4⟩ := r1.three
        obtain ⟨z1, z2, z3⟩ := r3.two'
        obtain ⟨z4, z5, z6, z7⟩ := r4.three
        clear fA fB
        go_wp2
        go_region
        all_goals
          go_wp2
          exact bodyPost_ret (v := .tuple #[.agg #[.int .i64 pc, .slice (some ⟨rb, 0, none⟩) 8 cp], .agg #[.slice (some ⟨g1, 0, none⟩) n1 c1, .slice (some ⟨g2, 0, none⟩) n2 c2, .slice (some ⟨g3, 0, none⟩) n3 c3], .int .i64 0]) (by first | (simp [results, Tryz.results86, go_sem, ya0, ya1, ya2, ya3, ya4]; done) | (simp [results, Tryz.results86, go_sem, yb0, yb1, yb2, yb3, yb4]; done)) rfl
            ⟨_, _, _, _, _, _, _, _, _, rfl, by first | exact FA.out.1 | exact FB.out.1, by first | exact FA.out.2.1 | exact FB.out.2.1, by first | exact FA.out.2.2 | exact FB.out.2.2⟩

      · have hg : RG = rg := by rw [HRG.out, hf, if_neg hq]
        subst hg
        obtain rfl : f = F := hf.symm
        have hq' : (f == 0) = false := by simpa using hq
        obtain ⟨fA, ya0, ya1, ya2, ya3, ya4⟩ := st_keyd (pc := pc) O2 M2 r3 r4 T2 (by omega) (Or.inl rfl)
        obtain ⟨fB, yb0, yb1, yb2, yb3, yb4⟩ := st_keyd (pc := pc) O2 M2 r3 r4 T2 (by omega) (Or.inr rfl)
        simp only [setC, setM] at fA ya0 ya1 ya2 ya3 ya4 fB yb0 yb1 yb2 yb3 yb4
        have FA := hide fA
        have FB := hide fB
        obtain ⟨t1, t2, t3⟩ := r0.two'
        obtain ⟨s1, s2, s3, s4⟩ := r1.three
        obtain ⟨z1, z2, z3⟩ := r3.two'
        obtain ⟨z4, z5, z6, z7⟩ := r4.three
        clear fA fB
        go_wp2
        go_region
        all_goals
          go_wp2
          exact bodyPost_ret (v := .tuple #[.agg #[.int .i64 pc, .slice (some ⟨rb, 0, none⟩) 8 cp], .agg #[.slice (some ⟨g1, 0, none⟩) n1 c1, .slice (some ⟨g2, 0, none⟩) n2 c2, .slice (some ⟨g3, 0, none⟩) n3 c3], .int .i64 f]) (by first | (simp [results, Tryz.results86, go_sem, ya0, ya1, ya2, ya3, ya4]; done) | (simp [results, Tryz.results86, go_sem, yb0, yb1, yb2, yb3, yb4]; done)) rfl
            ⟨_, _, _, _, _, _, _, _, _, rfl, by first | exact FA.out.1 | exact FB.out.1, by first | exact FA.out.2.1 | exact FB.out.2.1, by first | exact FA.out.2.2 | exact FB.out.2.2⟩

set_option maxHeartbeats 2000000 in
theorem l3Memory_16 (d a i : Int) (pc : Int) (rb cp : Nat) (rg : List Int) (g1 g2 g3 n1 c1 n2 c2 n3 c3 : Nat) (x1 x2 x3 : List Int) (ra : Option Addr) (rn rc : Nat) (rs : List Rg) (base : Nat) (w : World) (ho : OI w base (.slice (some ⟨rb, 0, none⟩) 8 cp) rg) (hm : Own3 w base (.slice (some ⟨g1, 0, none⟩) n1 c1) (.slice (some ⟨g2, 0, none⟩) n2 c2) (.slice (some ⟨g3, 0, none⟩) n3 c3) x1 x2 x3) (hrs : RS w ra rn rc rs) (hw : ∀ z ∈ rg, 0 ≤ z ∧ z ≤ 4294967295) (hn : n1 + n2 + n3 ≤ 1048576) (hb : base ≤ w.heap.size) (d0 : 0 ≤ d) (d1 : d < 8) (a0 : 0 ≤ a) (a7 : a < 8) (i0 : 0 ≤ i) (i1 : i ≤ 65535) :
    Calls Tryz.prog 86 #[.agg #[.int .i64 pc, .slice (some ⟨rb, 0, none⟩) 8 cp], .agg #[.slice (some ⟨g1, 0, none⟩) n1 c1, .slice (some ⟨g2, 0, none⟩) n2 c2, .slice (some ⟨g3, 0, none⟩) n3 c3], .slice ra rn rc, .agg #[.int .i64 16, .int .i64 d, .int .i64 a, .int .i64 i]] w (MmPost w base pc (.slice (some ⟨rb, 0, none⟩) 8 cp) (lf n1 n2 n3 x1 x2 rs rn (atOf rg a i) 4) (if lf n1 n2 n3 x1 x2 rs rn (atOf rg a i) 4 = 0 then rg.set d.toNat (rd n1 n2 n3 x1 x2 (atOf rg a i) 4).1 else rg) x1 x2 x3) := by
  obtain ⟨F, hF⟩ : ∃ F, F = lf n1 n2 n3 x1 x2 rs rn (atOf rg a i) 4 := ⟨_, rfl⟩
  obtain ⟨RG, hRG⟩ : ∃ RG, RG = if lf n1 n2 n3 x1 x2 rs rn (atOf rg a i) 4 = 0 then rg.set d.toNat (rd n1 n2 n3 x1 x2 (atOf rg a i) 4).1 else rg := ⟨_, rfl⟩
  rw [← hRG, ← hF]
  rw [← hF] at hRG
  unfold lf at hF
  obtain ⟨W, hW⟩ : ∃ W, W = (((((w.alloc (.cells #[.int .i64 pc, .slice (some ⟨rb, 0, none⟩) 8 cp] 58)).alloc (.cells #[.slice (some ⟨g1, 0, none⟩) n1 c1, .slice (some ⟨g2, 0, none⟩) n2 c2, .slice (some ⟨g3, 0, none⟩) n3 c3] 38)).alloc (.cells #[.int .i64 16, .int .i64 d, .int .i64 a, .int .i64 i] 124)).alloc (.cells #[.int .i64 0, .slice none 0 0] 58)).alloc (.cells #[.slice none 0 0, .slice none 0 0, .slice none 0 0] 38)) := ⟨_, rfl⟩
  have hB0 : Below w.heap.size w W := by rw [hW]; exact (((((Below.refl _ _).alloc (Nat.le_refl _) _).alloc (by simp) _).alloc (by simp; omega) _).alloc (by simp; omega) _).alloc (by simp; omega) _
  have k0 : Blk W (w.heap.size) #[.int .i64 pc, .slice (some ⟨rb, 0, none⟩) 8 cp] 58 := by
    rw [hW]
    have := ((((Blk.new w #[.int .i64 pc, .slice (some ⟨rb, 0, none⟩) 8 cp] 58).alloc (.cells #[.slice (some ⟨g1, 0, none⟩) n1 c1, .slice (some ⟨g2, 0, none⟩) n2 c2, .slice (some ⟨g3, 0, none⟩) n3 c3] 38)).alloc (.cells #[.int .i64 16, .int .i64 d, .int .i64 a, .int .i64 i] 124)).alloc (.cells #[.int .i64 0, .slice none 0 0] 58)).alloc (.cells #[.slice none 0 0, .slice none 0 0, .slice none 0 0] 38)
    simpa only [World.size_alloc] using this
  have k1 : Blk W (w.heap.size + 1) #[.slice (some ⟨g1, 0, none⟩) n1 c1, .slice (some ⟨g2, 0, none⟩) n2 c2, .slice (some ⟨g3, 0, none⟩) n3 c3] 38 := by
    rw [hW]
    have := (((Blk.new (w.alloc (.cells #[.int .i64 pc, .slice (some ⟨rb, 0, none⟩) 8 cp] 58)) #[.slice (some ⟨g1, 0, none⟩) n1 c1, .slice (some ⟨g2, 0, none⟩) n2 c2, .slice (some ⟨g3, 0, none⟩) n3 c3] 38).alloc (.cells #[.int .i64 16, .int .i64 d, .int .i64 a, .int .i64 i] 124)).alloc (.cells #[.int .i64 0, .slice none 0 0] 58)).alloc (.cells #[.slice none 0 0, .slice none 0 0, .slice none 0 0] 38)
    simpa only [World.size_alloc] using this
  have k2 : Blk W (w.heap.size + 1 + 1) #[.int .i64 16, .int .i64 d, .int .i64 a, .int .i64 i] 124 := by
    rw [hW]
    have := ((Blk.new ((w.alloc (.cells #[.int .i64 pc, .slice (some ⟨rb, 0, none⟩) 8 cp] 58)).alloc (.cells #[.slice (some ⟨g1, 0, none⟩) n1 c1, .slice (some ⟨g2, 0, none⟩) n2 c2, .slice (some ⟨g3, 0, none⟩) n3 c3] 38)) #[.int .i64 16, .int .i64 d, .int .i64 a, .int .i64 i] 124).alloc (.cells #[.int .i64 0, .slice none 0 0] 58)).alloc (.cells #[.slice none 0 0, .slice none 0 0, .slice none 0 0] 38)
    simpa only [World.size_alloc] using this
  have k3 : Blk W (w.heap.size + 1 + 1 + 1) #[.int .i64 0, .slice none 0 0] 58 := by
    rw [hW]
    have := (Blk.new (((w.alloc (.cells #[.int .i64 pc, .slice (some ⟨rb, 0, none⟩) 8 cp] 58)).alloc (.cells #[.slice (some ⟨g1, 0, none⟩) n1 c1, .slice (some ⟨g2, 0, none⟩) n2 c2, .slice (some ⟨g3, 0, none⟩) n3 c3] 38)).alloc (.cells #[.int .i64 16, .int .i64 d, .int .i64 a, .int .i64 i] 124)) #[.int .i64 0, .slice none 0 0] 58).alloc (.cells #[.slice none 0 0, .slice none 0 0, .slice none 0 0] 38)
    simpa only [World.size_alloc] using this
  have k4 : Blk W (w.heap.size + 1 + 1 + 1 + 1) #[.slice none 0 0, .slice none 0 0, .slice none 0 0] 38 := by
    rw [hW]
    have := Blk.new ((((w.alloc (.cells #[.int .i64 pc, .slice (some ⟨rb, 0, none⟩) 8 cp] 58)).alloc (.cells #[.slice (some ⟨g1, 0, none⟩) n1 c1, .slice (some ⟨g2, 0, none⟩) n2 c2, .slice (some ⟨g3, 0, none⟩) n3 c3] 38)).alloc (.cells #[.int .i64 16, .int .i64 d, .int .i64 a, .int .i64 i] 124)).alloc (.cells #[.int .i64 0, .slice none 0 0] 58)) #[.slice none 0 0, .slice none 0 0, .slice none 0 0] 38
    simpa only [World.size_alloc] using this
  have O0 := ho.below hB0
  have M0 := own3_below hm hB0
  have R0 := hrs.below hB0
  have hl := ho.is.1
  have hza := hw (rg.getD a.toNat 0) (by rw [List.getD_eq_getElem?_getD, List.getElem?_eq_getElem (show a.toNat < rg.length by omega)]; exact List.getElem_mem _)
  have hzd := hw (rg.getD d.toNat 0) (by rw [List.getD_eq_getElem?_getD, List.getElem?_eq_getElem (show d.toNat < rg.length by omega)]; exact List.getElem_mem _)
  have ca := O0.is.at a.toNat (by omega)
  simp only [Nat.zero_add] at ca
  obtain ⟨za0, za1⟩ := hza
  obtain ⟨u0, u1⟩ := atOf_range rg a i
  obtain ⟨xi0, xi1⟩ := wide_range i i0 i1
  have HAT := hide (show (rg.getD a.toNat 0 + wide i) % 4294967296 = atOf rg a i from rfl)
  have HWD := hide (fun w => l3Wide_any i w i0 i1)
  have hrr := rd_range n1 n2 n3 x1 x2 (atOf rg a i) 4 hm.1.2 hm.2.1.2
  generalize atOf rg a i = z at *
  generalize rg.getD a.toNat 0 = y at *
  generalize wide i = x at *
  have HWR := hide (show IntKind.i64.wrap (y + x) = y + x by rw [IntKind.wrap_i64]; omega)
  have HWO := hide (fun w => l1Word_any (y + x) w ⟨by omega, by omega⟩)
  rw [HAT.out] at HWO
  have HAL := hide (fun w h => sAllowed_any ra rn rc rs z 4 1 w h ⟨by omega, by omega⟩)
  have ne0 : w.heap.size ≠ w.heap.size + 1 := by omega
  have ne1 : w.heap.size ≠ w.heap.size + 1 + 1 := by omega
  have ne2 : w.heap.size ≠ w.heap.size + 1 + 1 + 1 := by omega
  have ne3 : w.heap.size ≠ w.heap.size + 1 + 1 + 1 + 1 := by omega
  have ne4 : w.heap.size + 1 ≠ w.heap.size := by omega
  have ne5 : w.heap.size + 1 ≠ w.heap.size + 1 + 1 := by omega
  have ne6 : w.heap.size + 1 ≠ w.heap.size + 1 + 1 + 1 := by omega
  have ne7 : w.heap.size + 1 ≠ w.heap.size + 1 + 1 + 1 + 1 := by omega
  have ne8 : w.heap.size + 1 + 1 ≠ w.heap.size := by omega
  have ne9 : w.heap.size + 1 + 1 ≠ w.heap.size + 1 := by omega
  have ne10 : w.heap.size + 1 + 1 ≠ w.heap.size + 1 + 1 + 1 := by omega
  have ne11 : w.heap.size + 1 + 1 ≠ w.heap.size + 1 + 1 + 1 + 1 := by omega
  have ne12 : w.heap.size + 1 + 1 + 1 ≠ w.heap.size := by omega
  have ne13 : w.heap.size + 1 + 1 + 1 ≠ w.heap.size + 1 := by omega
  have ne14 : w.heap.size + 1 + 1 + 1 ≠ w.heap.size + 1 + 1 := by omega
  have ne15 : w.heap.size + 1 + 1 + 1 ≠ w.heap.size + 1 + 1 + 1 + 1 := by omega
  have ne16 : w.heap.size + 1 + 1 + 1 + 1 ≠ w.heap.size := by omega
  have ne17 : w.heap.size + 1 + 1 + 1 + 1 ≠ w.heap.size + 1 := by omega
  have ne18 : w.heap.size + 1 + 1 + 1 + 1 ≠ w.heap.size + 1 + 1 := by omega
  have ne19 : w.heap.size + 1 + 1 + 1 + 1 ≠ w.heap.size + 1 + 1 + 1 := by omega
  have HRD := hide (fun w h1 h2 => sRead_any (some ⟨g1, 0, none⟩) (some ⟨g2, 0, none⟩) (some ⟨g3, 0, none⟩) n1 c1 n2 c2 n3 c3 x1 x2 x3 z 4 w h1 h2 (by omega))
  generalize alw rs rn z 4 1 = AL at *
  generalize rd n1 n2 n3 x1 x2 z 4 = R at *
  obtain ⟨v, f⟩ := R
  dsimp only at hF hRG hrr HRD
  have HF := hide hF
  have HRG := hide hRG
  clear hF hRG
  have lt0 := k0.lt
  have lt1 := k1.lt
  have lt2 := k2.lt
  have lt3 := k3.lt
  have lt4 := k4.lt
  obtain ⟨e1, e2, e3⟩ := k0.two'
  obtain ⟨f1, f2, f3, f4⟩ := k1.three
  obtain ⟨j1, j2, j3, j4, j5⟩ := k2.four'
  go_enter Tryz.func86, Tryz.ntmps86
  go_wp2_with fail
  rw [← hW]
  clear hW
  go_region_held3 (fun w' => w'.cell? ⟨w.heap.size, 1, none⟩ = some (.slice (some ⟨rb, 0, none⟩) 8 cp) ∧ w'.cell? ⟨w.heap.size + 1 + 1, 2, none⟩ = some (.int .i64 a) ∧ w'.cell? ⟨w.heap.size + 1 + 1, 3, none⟩ = some (.int .i64 i) ∧ w'.cell? ⟨rb, a.toNat, none⟩ = some (.int .i64 y)) (go_keep)
    (first
      | (go_at_call 89; refine (HWD.out _).mono ?_; rintro e w1 ⟨rfl, rfl⟩)
      | (go_at_call 72; rw [HWR.out]; refine (HWO.out _).mono ?_; rintro e w1 ⟨rfl, rfl⟩))
  all_goals
    have KX := Blk.new W #[.int .i64 1, .int .i64 2, .int .i64 4] 3
    go_wp2_with fail
    have hV : Below W.heap.size W (W.alloc (.cells #[.int .i64 1, .int .i64 2, .int .i64 4] 3)).drew := ((Below.refl _ _).alloc (Nat.le_refl _) _).drew
    refine (HAL.out _ (by exact R0.below hV)).mono ?_
    rintro e w1 ⟨rfl, hb1⟩
    have b1 : Below W.heap.size W w1 := hV.trans (hb1.mono hV.size)
    have r0 := k0.below b1
    have r1 := k1.below b1
    have r2 := k2.below b1
    have r3 := k3.below b1
    have r4 := k4.below b1
    have M2 := own3_below M0 b1
    have O2 := O0.below b1
    have T2 : Turn (fun j => (Value.slice (some ⟨rb, 0, none⟩) 8 cp).ownBlock = some j) w w1 := turn_below (hB0.trans (b1.mono hB0.size))
    clear hb1 hV b1 k0 k1 k2 k3 k4 M0 O0 hB0 e1 e2 e3 f1 f2 f3 f4 j1 j2 j3 j4 j5 ca KX R0 lt0 lt1 lt2 lt3 lt4
    cases AL
    · have hf : F = 5 := HF.out
      have hg : RG = rg := by rw [HRG.out, hf, if_neg (by omega)]
      subst hf hg
      obtain ⟨fA, ya0, ya1, ya2, ya3, ya4⟩ := st_keyd (pc := pc) O2 M2 r3 r4 T2 (by omega) (Or.inl rfl)
      obtain ⟨fB, yb0, yb1, yb2, yb3, yb4⟩ := st_keyd (pc := pc) O2 M2 r3 r4 T2 (by omega) (Or.inr rfl)
      simp only [setC, setM] at fA ya0 ya1 ya2 ya3 ya4 fB yb0 yb1 yb2 yb3 yb4
      have FA := hide fA
      have FB := hide fB
      obtain ⟨t1, t2, t3⟩ := r0.two'
      obtain ⟨s1, s2, s3, s4⟩ := r1.three
      obtain ⟨z1, z2, z3⟩ := r3.two'
      obtain ⟨z4, z5, z6, z7⟩ := r4.three
      clear fA fB
      go_wp2
      go_region
      all_goals
        go_wp2
        exact bodyPost_ret (v := .tuple #[.agg #[.int .i64 pc, .slice (some ⟨rb, 0, none⟩) 8 cp], .agg #[.slice (some ⟨g1, 0, none⟩) n1 c1, .slice (some ⟨g2, 0, none⟩) n2 c2, .slice (some ⟨g3, 0, none⟩) n3 c3], .int .i64 5]) (by first | (simp [results, Tryz.results86, go_sem, ya0, ya1, ya2, ya3, ya4]; done) | (simp [results, Tryz.results86, go_sem, yb0, yb1, yb2, yb3, yb4]; done)) rfl
          ⟨_, _, _, _, _, _, _, _, _, rfl, by first | exact FA.out.1 | exact FB.out.1, by first | exact FA.out.2.1 | exact FB.out.2.1, by first | exact FA.out.2.2 | exact FB.out.2.2⟩

    · have hf : F = f := HF.out
      obtain ⟨s1, s2, s3, s4⟩ := r1.three
      go_wp2_with fail
      refine (HRD.out _ M2.1.bs M2.2.1.bs).mono ?_
      rintro e w2 ⟨rfl, hb2⟩
      replace r0 := r0.below hb2
      replace r1 := r1.below hb2
      replace r2 := r2.below hb2
      replace r3 := r3.below hb2
      replace r4 := r4.below hb2
      replace M2 := own3_below M2 hb2
      replace O2 := O2.below hb2
      replace T2 := T2.trans (turn_below hb2)
      clear hb2 s1 s2 s3 s4
      by_cases hq : f = 0
      · have hg : RG = rg.set d.toNat v := by rw [HRG.out, hf, if_pos hq]
        have hf0 : F = 0 := hf.trans hq
        subst hq
        subst hf0 hg
        clear hf HF HRG
        obtain ⟨cur, kc⟩ := O2.blk
        have cd := O2.is.at d.toNat (by omega)
        simp only [Nat.zero_add] at cd
        have cf := kc.frozen d.toNat
        obtain ⟨v0, v1⟩ := hrr
        have O3 := O2.set d.toNat (by omega) v ⟨by omega, by omega⟩
        have tt : Turn (fun j => j = rb) w2 (w2.setCell ⟨rb, d.toNat, none⟩ (.int .i64 v)) := turn_setg _ _ _ _
        have T3 := T2.trans (tt.mono (fun j e => by have e' : j = rb := e; show some rb = some j; rw [e']))
        have nb : ∀ {u : Value} {ys : List Int}, OB w2 base u ys → ∀ k, u.ownBlock = some k → ¬ (k = rb) := fun h k hk e => ob_ne h kc (by decide) (by rw [hk, e])
        have M3 : Own3 (w2.setCell ⟨rb, d.toNat, none⟩ (.int .i64 v)) base (.slice (some ⟨g1, 0, none⟩) n1 c1) (.slice (some ⟨g2, 0, none⟩) n2 c2) (.slice (some ⟨g3, 0, none⟩) n3 c3) x1 x2 x3 := ⟨turn_ob tt M2.1 (nb M2.1), turn_ob tt M2.2.1 (nb M2.2.1), turn_ob tt M2.2.2.1 (nb M2.2.2.1), M2.2.2.2⟩
        have nr : ∀ {G : Nat} {u : Array Value} {t : TypeId}, Blk w2 G u t → t ≠ 3 → G ≠ rb := fun h ht e => by
          subst e
          unfold Blk at h kc
          rw [kc] at h
          simp at h
          exact ht h.2.symm
        have a0' := nr r0 (by decide)
        have a1' := nr r1 (by decide)
        have a2' := nr r2 (by decide)
        have a3' := nr r3 (by decide)
        have a4' := nr r4 (by decide)
        have p0' := r0
        obtain ⟨t1, t2, t3⟩ := r0.two'
        obtain ⟨l1, l2, l3, l4, l5⟩ := r2.four'
        replace r0 := r0.other ⟨rb, d.toNat, none⟩ (.int .i64 v) a0'
        replace r1 := r1.other ⟨rb, d.toNat, none⟩ (.int .i64 v) a1'
        replace r3 := r3.other ⟨rb, d.toNat, none⟩ (.int .i64 v) a3'
        replace r4 := r4.other ⟨rb, d.toNat, none⟩ (.int .i64 v) a4'
        generalize rg.getD d.toNat 0 = yd at *
        clear M2 O2 T2 tt kc
        have M2 := M3
        obtain ⟨fA, ya0, ya1, ya2, ya3, ya4⟩ := st_keyd (pc := pc) O3 M2 r3 r4 T3 (by omega) (Or.inl rfl)
        obtain ⟨fB, yb0, yb1, yb2, yb3, yb4⟩ := st_keyd (pc := pc) O3 M2 r3 r4 T3 (by omega) (Or.inr rfl)
        simp only [setC, setM] at fA ya0 ya1 ya2 ya3 ya4 fB yb0 yb1 yb2 yb3 yb4
        have FA := hide fA
        have FB := hide fB
        obtain ⟨t1, t2, t3⟩ := r0.two'
        obtain ⟨s1, s2, s3, s4⟩ := r1.three
        obtain ⟨z1, z2, z3⟩ := r3.two'
        obtain ⟨z4, z5, z6, z7⟩ := r4.three
        clear fA fB
        go_wp2
        go_region
        all_goals
          go_wp2
          exact bodyPost_ret (v := .tuple #[.agg #[.int .i64 pc, .slice (some ⟨rb, 0, none⟩) 8 cp], .agg #[.slice (some ⟨g1, 0, none⟩) n1 c1, .slice (some ⟨g2, 0, none⟩) n2 c2, .slice (some ⟨g3, 0, none⟩) n3 c3], .int .i64 0]) (by first | (simp [results, Tryz.results86, go_sem, ya0, ya1, ya2, ya3, ya4]; done) | (simp [results, Tryz.results86, go_sem, yb0, yb1, yb2, yb3, yb4]; done)) rfl
            ⟨_, _, _, _, _, _, _, _, _, rfl, by first | exact FA.out.1 | exact FB.out.1, by first | exact FA.out.2.1 | exact FB.out.2.1, by first | exact FA.out.2.2 | exact FB.out.2.2⟩

      · have hg : RG = rg := by rw [HRG.out, hf, if_neg hq]
        subst hg
        obtain rfl : f = F := hf.symm
        have hq' : (f == 0) = false := by simpa using hq
        obtain ⟨fA, ya0, ya1, ya2, ya3, ya4⟩ := st_keyd (pc := pc) O2 M2 r3 r4 T2 (by omega) (Or.inl rfl)
        obtain ⟨fB, yb0, yb1, yb2, yb3, yb4⟩ := st_keyd (pc := pc) O2 M2 r3 r4 T2 (by omega) (Or.inr rfl)
        simp only [setC, setM] at fA ya0 ya1 ya2 ya3 ya4 fB yb0 yb1 yb2 yb3 yb4
        have FA := hide fA
        have FB := hide fB
        obtain ⟨t1, t2, t3⟩ := r0.two'
        obtain ⟨s1, s2, s3, s4⟩ := r1.three
        obtain ⟨z1, z2, z3⟩ := r3.two'
        obtain ⟨z4, z5, z6, z7⟩ := r4.three
        clear fA fB
        go_wp2
        go_region
        all_goals
          go_wp2
          exact bodyPost_ret (v := .tuple #[.agg #[.int .i64 pc, .slice (some ⟨rb, 0, none⟩) 8 cp], .agg #[.slice (some ⟨g1, 0, none⟩) n1 c1, .slice (some ⟨g2, 0, none⟩) n2 c2, .slice (some ⟨g3, 0, none⟩) n3 c3], .int .i64 f]) (by first | (simp [results, Tryz.results86, go_sem, ya0, ya1, ya2, ya3, ya4]; done) | (simp [results, Tryz.results86, go_sem, yb0, yb1, yb2, yb3, yb4]; done)) rfl
            ⟨_, _, _, _, _, _, _, _, _, rfl, by first | exact FA.out.1 | exact FB.out.1, by first | exact FA.out.2.1 | exact FB.out.2.1, by first | exact FA.out.2.2 | exact FB.out.2.2⟩

end Go.Proofs.YtngdgogjlpjjpadGreat
