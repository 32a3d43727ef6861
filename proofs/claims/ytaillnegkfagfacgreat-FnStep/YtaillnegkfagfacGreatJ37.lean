import Derived.Test.YtaillnegkfagfacGreatJ36
import Derived.Test.YtaillnegkfagfacGreatJ21
import Derived.Test.YtaillnegkfagfacGreatJ05
import Derived.Test.YtaillnegkfagfacGreatJ10
namespace Go.Proofs.YtaillnegkfagfacGreat
open Go.RowKit
set_option linter.unusedVariables false

theorem own_some {w : World} {base n : Nat} {v : Value} {xs : List Value} (h : w.ownsRow base 5 1 v n xs) (hn : v ≠ .slice none 0 0) : ∃ g cap, v = .slice (some ⟨g, 0, none⟩) n cap := by
  obtain ⟨hl, ⟨h0, _⟩ | ⟨g, cap, cur, hv, _⟩⟩ := h
  · exact absurd h0 hn
  · exact ⟨g, cap, hv⟩

set_option maxHeartbeats 1000000 in
theorem l1Bytes_some (b off n cap : Nat) (zs : List Int) (w : World) (h : BS w (some ⟨b, off, none⟩) n cap zs) (hn : n ≤ 1048576) :
    Calls Tryz.prog 40 #[.slice (some ⟨b, off, none⟩) n cap] w fun e w' => ∃ g cap', e = .returned (.slice (some ⟨g, 0, none⟩) n cap') ∧ OB w' w.heap.size (.slice (some ⟨g, 0, none⟩) n cap') zs ∧ Below w.heap.size w w' := by
  obtain ⟨i0, hi, hz0, hz1, hz2⟩ := info_parts info8
  have hl := h.1
  have h' := h.below ((Below.refl w.heap.size w).alloc (Nat.le_refl _) (.cells #[] 5))
  have hnews := hide (bs_news h')
  have hone := hide (ints_oneCell .u8 zs)
  have hown := hide (own_empty w)
  have hlen := hide (show (zs.map (Value.int .u8)).length = n * 1 by simp; omega)
  go_enter Tryz.func40, Tryz.ntmps40
  go_wp2_with (at_builtin; refine wpList_append_own _ rfl _ _ 22 rfl w.heap.size 5 i0 (.int .u8 0) 1 1 Tryz.underlying22 hi hz0 hz1 hz2 rfl (by decide) _ 0 [] rfl hown.out ⟨b, off, none⟩ n cap (zs.map (Value.int .u8)) rfl hlen.out hnews.out hone.out (by unfold maxLen; omega) (by omega) (by simp) ?_; intro v' w1 hown1 hgr1 hnil)
  simp only [Nat.zero_add, List.nil_append] at hown1
  have hex := own_some hown1 (fun e => by have h1 := (hnil.1 e).1; injection h1 with h2 _ _; injection h2)
  clear hnil
  go_ret
  obtain ⟨g', cap', he⟩ := hex
  refine ⟨g', cap', by rw [← he]; rfl, ⟨?_, h.2.2.1⟩, ?_⟩
  · rw [hl, ← he]
    exact hown1
  · exact below_grown' ((Below.refl w.heap.size w).alloc (Nat.le_refl _) _) hgr1 (by simp) (Nat.le_refl _)

set_option maxHeartbeats 2000000 in
theorem l1Copy_some (b1 o1 b2 o2 b3 o3 n1 c1 n2 c2 n3 c3 : Nat) (x1 x2 x3 : List Int) (w : World) (h1 : BS w (some ⟨b1, o1, none⟩) n1 c1 x1) (h2 : BS w (some ⟨b2, o2, none⟩) n2 c2 x2) (h3 : BS w (some ⟨b3, o3, none⟩) n3 c3 x3) (hn : n1 + n2 + n3 ≤ 1048576) :
    Calls Tryz.prog 16 #[.agg #[.slice (some ⟨b1, o1, none⟩) n1 c1, .slice (some ⟨b2, o2, none⟩) n2 c2, .slice (some ⟨b3, o3, none⟩) n3 c3]] w fun e w' => ∃ g1 d1 g2 d2 g3 d3, e = .returned (.agg #[.slice (some ⟨g1, 0, none⟩) n1 d1, .slice (some ⟨g2, 0, none⟩) n2 d2, .slice (some ⟨g3, 0, none⟩) n3 d3]) ∧ Own3 w' w.heap.size (.slice (some ⟨g1, 0, none⟩) n1 d1) (.slice (some ⟨g2, 0, none⟩) n2 d2) (.slice (some ⟨g3, 0, none⟩) n3 d3) x1 x2 x3 ∧ Below w.heap.size w w' := by
  have hB0 : Below w.heap.size w ((w.alloc (.cells #[.slice (some ⟨b1, o1, none⟩) n1 c1, .slice (some ⟨b2, o2, none⟩) n2 c2, .slice (some ⟨b3, o3, none⟩) n3 c3] 27)).alloc (.cells #[.slice none 0 0, .slice none 0 0, .slice none 0 0] 27)) :=
    ((Below.refl _ _).alloc (Nat.le_refl _) _).alloc (by simp) _
  have kb := (Blk.new w #[.slice (some ⟨b1, o1, none⟩) n1 c1, .slice (some ⟨b2, o2, none⟩) n2 c2, .slice (some ⟨b3, o3, none⟩) n3 c3] 27).alloc (.cells #[.slice none 0 0, .slice none 0 0, .slice none 0 0] 27)
  have kr := Blk.new (w.alloc (.cells #[.slice (some ⟨b1, o1, none⟩) n1 c1, .slice (some ⟨b2, o2, none⟩) n2 c2, .slice (some ⟨b3, o3, none⟩) n3 c3] 27)) #[.slice none 0 0, .slice none 0 0, .slice none 0 0] 27
  simp only [World.size_alloc] at kr
  have B1 := h1.below hB0
  have B2 := h2.below hB0
  have B3 := h3.below hB0
  clear h1 h2 h3
  go_enter Tryz.func16, Tryz.ntmps16
  go_wp2
  go_region_held3 (fun w' => w'.cell? ⟨w.heap.size, 0, none⟩ = some (.slice (some ⟨b1, o1, none⟩) n1 c1) ∧ w'.cell? ⟨w.heap.size, 1, none⟩ = some (.slice (some ⟨b2, o2, none⟩) n2 c2) ∧ w'.cell? ⟨w.heap.size, 2, none⟩ = some (.slice (some ⟨b3, o3, none⟩) n3 c3)) (go_keep)
    (first
      | (go_at_call_of 40 (Value.slice (some ⟨b1, o1, none⟩) n1 c1); refine (l1Bytes_some b1 o1 n1 c1 x1 _ (by exact B1) (by omega)).mono ?_; rintro e w1 ⟨g1, d1, rfl, p1, hb1⟩; replace hb1 := undrew hb1; obtain ⟨q1, q2, q3, q4⟩ := (kb.below hb1).three)
      | (go_at_call_of 40 (Value.slice (some ⟨b2, o2, none⟩) n2 c2); refine (l1Bytes_some b2 o2 n2 c2 x2 _ (B2.below hb1) (by omega)).mono ?_; rintro e w2 ⟨g2, d2, rfl, p2, hb2⟩; have hb12 := hb1.trans (hb2.mono hb1.size); obtain ⟨q1, q2, q3, q4⟩ := (kb.below hb12).three)
      | (go_at_call_of 40 (Value.slice (some ⟨b3, o3, none⟩) n3 c3); refine (l1Bytes_some b3 o3 n3 c3 x3 _ (B3.below hb12) (by omega)).mono ?_; rintro e w3 ⟨g3, d3, rfl, p3, hb3⟩; have hb13 := hb12.trans (hb3.mono hb12.size); obtain ⟨q1, q2, q3, q4⟩ := (kb.below hb13).three; obtain ⟨q5, q6, q7, q8⟩ := (kr.below hb13).three))
  have s1 := hb1.size
  have s2 := hb2.size
  have s3 := hb3.size
  simp only [heap_drew, World.size_alloc] at s1 p1
  go_wp2
  refine bodyPost_ret (v := .agg #[.slice (some ⟨g1, 0, none⟩) n1 d1, .slice (some ⟨g2, 0, none⟩) n2 d2, .slice (some ⟨g3, 0, none⟩) n3 d3]) (by simp [results, Tryz.results16, go_sem, q5, q6, q7]) rfl ⟨g1, d1, g2, d2, g3, d3, rfl, ⟨?_, ?_, ?_, ?_, ?_, ?_⟩, ?_⟩
  · exact (((((p1.below hb2).below hb3).other _ _ (by dsimp only; omega)).other _ _ (by dsimp only; omega)).other _ _ (by dsimp only; omega)).mono (by omega)
  · exact ((((p2.below hb3).other _ _ (by dsimp only; omega)).other _ _ (by dsimp only; omega)).other _ _ (by dsimp only; omega)).mono (by omega)
  · exact (((p3.other _ _ (by dsimp only; omega)).other _ _ (by dsimp only; omega)).other _ _ (by dsimp only; omega)).mono (by omega)
  · intro k j hk hj
    have := p1.lt k hk
    have := p2.lt j hj
    omega
  · intro k j hk hj
    have := p1.lt k hk
    have := p3.lt j hj
    omega
  · intro k j hk hj
    have := p2.lt k hk
    have := p3.lt j hj
    omega
  · exact (((hB0.trans (hb13.mono (by simp; omega))).setCell (by dsimp only; omega) _).setCell (by dsimp only; omega) _).setCell (by dsimp only; omega) _
end Go.Proofs.YtaillnegkfagfacGreat
