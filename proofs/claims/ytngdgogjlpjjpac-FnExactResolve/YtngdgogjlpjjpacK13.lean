import Derived.Test.YtngdgogjlpjjpacK12
namespace Go.Proofs.Ytngdgogjlpjjpac
open Go.RowKit
set_option linter.unusedVariables false

/-- THREE SLICES OF BYTES OF THE CALL's OWN, apart from each other. -/
def Own3 (w : World) (base : Nat) (v1 v2 v3 : Value) (x1 x2 x3 : List Int) : Prop :=
  OB w base v1 x1 ∧ OB w base v2 x2 ∧ OB w base v3 x3 ∧ (∀ k j, v1.ownBlock = some k → v2.ownBlock = some j → k < j) ∧ (∀ k j, v1.ownBlock = some k → v3.ownBlock = some j → k < j) ∧ ∀ k j, v2.ownBlock = some k → v3.ownBlock = some j → k < j

theorem OB.below {w w' : World} {base : Nat} {v : Value} {zs : List Int} (h : OB w base v zs) (hb : Below w.heap.size w w') : OB w' base v zs := by
  refine ⟨?_, h.2⟩
  obtain ⟨hl, h0 | ⟨g, cap, cur, hv, hg, hh, h1, h2, h3, h4⟩⟩ := h.1
  · exact ⟨hl, .inl h0⟩
  · refine ⟨hl, .inr ⟨g, cap, cur, hv, hg, ?_, h1, h2, h3, h4⟩⟩
    exact Blk.below (w := w) hh hb
theorem OB.mono {w : World} {base base' : Nat} {v : Value} {zs : List Int} (h : OB w base v zs) (hb : base' ≤ base) : OB w base' v zs := by
  refine ⟨?_, h.2⟩
  obtain ⟨hl, h0 | ⟨g, cap, cur, hv, hg, hh, h1, h2, h3, h4⟩⟩ := h.1
  · exact ⟨hl, .inl h0⟩
  · exact ⟨hl, .inr ⟨g, cap, cur, hv, by omega, hh, h1, h2, h3, h4⟩⟩
theorem OB.other {w : World} {base : Nat} {v : Value} {zs : List Int} (h : OB w base v zs) (a : Addr) (u : Value) (ha : a.block < base) : OB (w.setCell a u) base v zs := by
  refine ⟨?_, h.2⟩
  obtain ⟨hl, h0 | ⟨g, cap, cur, hv, hg, hh, h1, h2, h3, h4⟩⟩ := h.1
  · exact ⟨hl, .inl h0⟩
  · exact ⟨hl, .inr ⟨g, cap, cur, hv, hg, Blk.other (w := w) hh a u (by omega), h1, h2, h3, h4⟩⟩
theorem OB.lt {w : World} {base : Nat} {v : Value} {zs : List Int} (h : OB w base v zs) : ∀ k, v.ownBlock = some k → base ≤ k ∧ k < w.heap.size := h.1.lt
theorem OB.bs {w : World} {base n cap : Nat} {a : Option Addr} {zs : List Int} (h : OB w base (.slice a n cap) zs) : BS w a n cap zs := by
  obtain ⟨hl, ⟨h0, h0'⟩ | ⟨g, cap', cur, hv, hg, hh, h1, h2, h3, h4⟩⟩ := h.1
  · simp at h0
    obtain ⟨rfl, rfl, rfl⟩ := h0
    exact ⟨h0', Nat.zero_le _, h.2, fun hn => absurd rfl hn, Nat.le_refl _⟩
  · simp at hv
    obtain ⟨rfl, rfl, rfl⟩ := hv
    refine ⟨rfl, by omega, h.2, fun hn => ⟨g, 0, rfl, fun i hi => ?_⟩, h1⟩
    rw [Nat.zero_add, Blk.cell (w := w) hh]
    have : cur.toList[i]? = (zs.map (Value.int .u8))[i]? := by
      rw [← h4, List.getElem?_take, if_pos (by omega)]
    rw [Array.getElem?_toList] at this
    rw [this]
    simp [List.getD_eq_getElem?_getD, hi]

set_option maxHeartbeats 2000000 in
theorem l1Copy_any (b1 o1 b2 o2 b3 o3 n1 c1 n2 c2 n3 c3 : Nat) (x1 x2 x3 : List Int) (w : World) (h1 : BS w (some ⟨b1, o1, none⟩) n1 c1 x1) (h2 : BS w (some ⟨b2, o2, none⟩) n2 c2 x2) (h3 : BS w (some ⟨b3, o3, none⟩) n3 c3 x3) (hn : n1 + n2 + n3 ≤ 1048576) :
    Calls Try.prog 42 #[.agg #[.slice (some ⟨b1, o1, none⟩) n1 c1, .slice (some ⟨b2, o2, none⟩) n2 c2, .slice (some ⟨b3, o3, none⟩) n3 c3]] w fun e w' => ∃ a1 d1 a2 d2 a3 d3, e = .returned (.agg #[.slice a1 n1 d1, .slice a2 n2 d2, .slice a3 n3 d3]) ∧ Own3 w' w.heap.size (.slice a1 n1 d1) (.slice a2 n2 d2) (.slice a3 n3 d3) x1 x2 x3 ∧ Below w.heap.size w w' := by
  have hB0 : Below w.heap.size w ((w.alloc (.cells #[.slice (some ⟨b1, o1, none⟩) n1 c1, .slice (some ⟨b2, o2, none⟩) n2 c2, .slice (some ⟨b3, o3, none⟩) n3 c3] 24)).alloc (.cells #[.slice none 0 0, .slice none 0 0, .slice none 0 0] 24)) :=
    ((Below.refl _ _).alloc (Nat.le_refl _) _).alloc (by simp) _
  have kb := (Blk.new w #[.slice (some ⟨b1, o1, none⟩) n1 c1, .slice (some ⟨b2, o2, none⟩) n2 c2, .slice (some ⟨b3, o3, none⟩) n3 c3] 24).alloc (.cells #[.slice none 0 0, .slice none 0 0, .slice none 0 0] 24)
  have kr := Blk.new (w.alloc (.cells #[.slice (some ⟨b1, o1, none⟩) n1 c1, .slice (some ⟨b2, o2, none⟩) n2 c2, .slice (some ⟨b3, o3, none⟩) n3 c3] 24)) #[.slice none 0 0, .slice none 0 0, .slice none 0 0] 24
  simp only [World.size_alloc] at kr
  have B1 := h1.below hB0
  have B2 := h2.below hB0
  have B3 := h3.below hB0
  clear h1 h2 h3
  go_enter Try.func42, Try.ntmps42
  go_wp2
  go_region_held3 (fun w' => w'.cell? ⟨w.heap.size, 0, none⟩ = some (.slice (some ⟨b1, o1, none⟩) n1 c1) ∧ w'.cell? ⟨w.heap.size, 1, none⟩ = some (.slice (some ⟨b2, o2, none⟩) n2 c2) ∧ w'.cell? ⟨w.heap.size, 2, none⟩ = some (.slice (some ⟨b3, o3, none⟩) n3 c3)) (go_keep)
    (first
      | (go_at_call_of 108 (Value.slice (some ⟨b1, o1, none⟩) n1 c1); refine (l1Bytes_any b1 o1 n1 c1 x1 _ (by exact B1) (by omega)).mono ?_; rintro e w1 ⟨a1, d1, rfl, p1, hb1⟩; replace hb1 := undrew hb1; obtain ⟨q1, q2, q3, q4⟩ := (kb.below hb1).three)
      | (go_at_call_of 108 (Value.slice (some ⟨b2, o2, none⟩) n2 c2); refine (l1Bytes_any b2 o2 n2 c2 x2 _ (B2.below hb1) (by omega)).mono ?_; rintro e w2 ⟨a2, d2, rfl, p2, hb2⟩; have hb12 := hb1.trans (hb2.mono hb1.size); obtain ⟨q1, q2, q3, q4⟩ := (kb.below hb12).three)
      | (go_at_call_of 108 (Value.slice (some ⟨b3, o3, none⟩) n3 c3); refine (l1Bytes_any b3 o3 n3 c3 x3 _ (B3.below hb12) (by omega)).mono ?_; rintro e w3 ⟨a3, d3, rfl, p3, hb3⟩; have hb13 := hb12.trans (hb3.mono hb12.size); obtain ⟨q1, q2, q3, q4⟩ := (kb.below hb13).three; obtain ⟨q5, q6, q7, q8⟩ := (kr.below hb13).three))
  have s1 := hb1.size
  have s2 := hb2.size
  have s3 := hb3.size
  simp only [heap_drew, World.size_alloc] at s1 p1
  go_wp2
  refine bodyPost_ret (v := .agg #[.slice a1 n1 d1, .slice a2 n2 d2, .slice a3 n3 d3]) (by simp [results, Try.results42, go_sem, q5, q6, q7]) rfl ⟨a1, d1, a2, d2, a3, d3, rfl, ⟨?_, ?_, ?_, ?_, ?_, ?_⟩, ?_⟩
  · exact (((((p1.below hb2).below hb3).other _ _ (by dsimp only; omega)).other _ _ (by dsimp only; omega)).other _ _ (by dsimp only; omega)).mono (by omega)
  · exact ((((p2.below hb3).other _ _ (by dsimp only; omega)).other _ _ (by dsimp only; omega)).other _ _ (by dsimp only; omega)).mono (by omega)
  · exact (((p3.other _ _ (by dsimp only; omega)).other _ _ (by dsimp only; omega)).other _ _ (by dsimp only; omega)).mono (by omega)
  · intro k j hk hj
    have := p1.lt k hk
    have := p2.lt j hj
    omega
  · intro k j hk hj
    have := p1.lt k hk
    have := p3.lt j hj
    omega
  · intro k j hk hj
    have := p2.lt k hk
    have := p3.lt j hj
    omega
  · exact (((hB0.trans (hb13.mono (by simp; omega))).setCell (by dsimp only; omega) _).setCell (by dsimp only; omega) _).setCell (by dsimp only; omega) _

set_option maxHeartbeats 2000000 in
theorem copyMem_any (b1 o1 b2 o2 b3 o3 n1 c1 n2 c2 n3 c3 : Nat) (x1 x2 x3 : List Int) (w : World) (h1 : BS w (some ⟨b1, o1, none⟩) n1 c1 x1) (h2 : BS w (some ⟨b2, o2, none⟩) n2 c2 x2) (h3 : BS w (some ⟨b3, o3, none⟩) n3 c3 x3) (hn : n1 + n2 + n3 ≤ 1048576) :
    Calls Try.prog 47 #[.agg #[.slice (some ⟨b1, o1, none⟩) n1 c1, .slice (some ⟨b2, o2, none⟩) n2 c2, .slice (some ⟨b3, o3, none⟩) n3 c3]] w fun e w' => ∃ a1 d1 a2 d2 a3 d3, e = .returned (.agg #[.slice a1 n1 d1, .slice a2 n2 d2, .slice a3 n3 d3]) ∧ Own3 w' w.heap.size (.slice a1 n1 d1) (.slice a2 n2 d2) (.slice a3 n3 d3) x1 x2 x3 ∧ Below w.heap.size w w' := by
  have hB0 : Below w.heap.size w ((w.alloc (.cells #[.slice (some ⟨b1, o1, none⟩) n1 c1, .slice (some ⟨b2, o2, none⟩) n2 c2, .slice (some ⟨b3, o3, none⟩) n3 c3] 24)).alloc (.cells #[.slice none 0 0, .slice none 0 0, .slice none 0 0] 24)) :=
    ((Below.refl _ _).alloc (Nat.le_refl _) _).alloc (by simp) _
  have kb := (Blk.new w #[.slice (some ⟨b1, o1, none⟩) n1 c1, .slice (some ⟨b2, o2, none⟩) n2 c2, .slice (some ⟨b3, o3, none⟩) n3 c3] 24).alloc (.cells #[.slice none 0 0, .slice none 0 0, .slice none 0 0] 24)
  have kr := Blk.new (w.alloc (.cells #[.slice (some ⟨b1, o1, none⟩) n1 c1, .slice (some ⟨b2, o2, none⟩) n2 c2, .slice (some ⟨b3, o3, none⟩) n3 c3] 24)) #[.slice none 0 0, .slice none 0 0, .slice none 0 0] 24
  simp only [World.size_alloc] at kr
  have B1 := h1.below hB0
  have B2 := h2.below hB0
  have B3 := h3.below hB0
  clear h1 h2 h3
  go_enter Try.func47, Try.ntmps47
  go_wp2
  go_region_held3 (fun w' => w'.cell? ⟨w.heap.size, 0, none⟩ = some (.slice (some ⟨b1, o1, none⟩) n1 c1) ∧ w'.cell? ⟨w.heap.size, 1, none⟩ = some (.slice (some ⟨b2, o2, none⟩) n2 c2) ∧ w'.cell? ⟨w.heap.size, 2, none⟩ = some (.slice (some ⟨b3, o3, none⟩) n3 c3)) (go_keep)
    (first
      | (go_at_call_of 109 (Value.slice (some ⟨b1, o1, none⟩) n1 c1); refine (clone_any b1 o1 n1 c1 x1 _ (by exact B1) (by omega)).mono ?_; rintro e w1 ⟨a1, d1, rfl, p1, hb1⟩; replace hb1 := undrew hb1; obtain ⟨q1, q2, q3, q4⟩ := (kb.below hb1).three)
      | (go_at_call_of 109 (Value.slice (some ⟨b2, o2, none⟩) n2 c2); refine (clone_any b2 o2 n2 c2 x2 _ (B2.below hb1) (by omega)).mono ?_; rintro e w2 ⟨a2, d2, rfl, p2, hb2⟩; have hb12 := hb1.trans (hb2.mono hb1.size); obtain ⟨q1, q2, q3, q4⟩ := (kb.below hb12).three)
      | (go_at_call_of 109 (Value.slice (some ⟨b3, o3, none⟩) n3 c3); refine (clone_any b3 o3 n3 c3 x3 _ (B3.below hb12) (by omega)).mono ?_; rintro e w3 ⟨a3, d3, rfl, p3, hb3⟩; have hb13 := hb12.trans (hb3.mono hb12.size); obtain ⟨q1, q2, q3, q4⟩ := (kb.below hb13).three; obtain ⟨q5, q6, q7, q8⟩ := (kr.below hb13).three))
  have s1 := hb1.size
  have s2 := hb2.size
  have s3 := hb3.size
  simp only [heap_drew, World.size_alloc] at s1 p1
  go_wp2
  refine bodyPost_ret (v := .agg #[.slice a1 n1 d1, .slice a2 n2 d2, .slice a3 n3 d3]) (by simp [results, Try.results47, go_sem, q5, q6, q7]) rfl ⟨a1, d1, a2, d2, a3, d3, rfl, ⟨?_, ?_, ?_, ?_, ?_, ?_⟩, ?_⟩
  · exact (((((p1.below hb2).below hb3).other _ _ (by dsimp only; omega)).other _ _ (by dsimp only; omega)).other _ _ (by dsimp only; omega)).mono (by omega)
  · exact ((((p2.below hb3).other _ _ (by dsimp only; omega)).other _ _ (by dsimp only; omega)).other _ _ (by dsimp only; omega)).mono (by omega)
  · exact (((p3.other _ _ (by dsimp only; omega)).other _ _ (by dsimp only; omega)).other _ _ (by dsimp only; omega)).mono (by omega)
  · intro k j hk hj
    have := p1.lt k hk
    have := p2.lt j hj
    omega
  · intro k j hk hj
    have := p1.lt k hk
    have := p3.lt j hj
    omega
  · intro k j hk hj
    have := p2.lt k hk
    have := p3.lt j hj
    omega
  · exact (((hB0.trans (hb13.mono (by simp; omega))).setCell (by dsimp only; omega) _).setCell (by dsimp only; omega) _).setCell (by dsimp only; omega) _

end Go.Proofs.Ytngdgogjlpjjpac
