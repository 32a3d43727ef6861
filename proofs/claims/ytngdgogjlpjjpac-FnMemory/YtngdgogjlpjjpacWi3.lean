import Derived.Test.YtngdgogjlpjjpacWi2
import Derived.Test.YtngdgogjlpjjpacWr5
namespace Go.Proofs.Ytngdgogjlpjjpac
open Go.RowKit
set_option linter.unusedVariables false

set_option maxHeartbeats 1000000 in
theorem iWrite_any (b1 o1 b2 o2 b3 o3 n1 c1 n2 c2 n3 c3 : Nat) (x1 x2 x3 : List Int) (p s v : Int) (w : World) (h1 : BS w (some ⟨b1, o1, none⟩) n1 c1 x1) (h2 : BS w (some ⟨b2, o2, none⟩) n2 c2 x2) (h3 : BS w (some ⟨b3, o3, none⟩) n3 c3 x3) (hn : n1 + n2 + n3 ≤ 1048576) (hv : -9223372036854775808 ≤ v ∧ v ≤ 9223372036854775807) (hmax : p ≤ 9223372036854775807) :
    Calls Try.prog 10 #[.agg #[.slice (some ⟨b1, o1, none⟩) n1 c1, .slice (some ⟨b2, o2, none⟩) n2 c2, .slice (some ⟨b3, o3, none⟩) n3 c3], .int .i64 p, .int .i64 s, .int .i64 v] w (WrPost w (wrm n1 n2 n3 x1 x2 x3 p s v)) := by
  have hB0 : Below w.heap.size w ((w.alloc (.cells #[.slice (some ⟨b1, o1, none⟩) n1 c1, .slice (some ⟨b2, o2, none⟩) n2 c2, .slice (some ⟨b3, o3, none⟩) n3 c3] 24)).alloc (.cells #[.slice none 0 0, .slice none 0 0, .slice none 0 0] 24)) := ((Below.refl _ _).alloc (Nat.le_refl _) _).alloc (by simp) _
  obtain ⟨⟨y1, y2, y3, f⟩, hR⟩ : ∃ R, R = wrm n1 n2 n3 x1 x2 x3 p s v := ⟨_, rfl⟩
  have HR := hide hR
  rw [← hR]
  clear hR
  go_enter Try.func10, Try.ntmps10
  go_wp2_with fail
  refine (copyMem_any b1 o1 b2 o2 b3 o3 n1 c1 n2 c2 n3 c3 x1 x2 x3 _ (h1.below hB0) (h2.below hB0) (h3.below hB0) hn).mono ?_
  rintro e w1 ⟨a1, d1, a2, d2, a3, d3, rfl, hO, hb1⟩
  have H := hold_start (bx := #[.slice (some ⟨b1, o1, none⟩) n1 c1, .slice (some ⟨b2, o2, none⟩) n2 c2, .slice (some ⟨b3, o3, none⟩) n3 c3]) hO hb1
  have hgo := hb1.size
  simp only [World.size_alloc] at hgo
  clear hO hb1
  go_wp2_with fail
  have hc := writeInto_any a1 a2 a3 n1 d1 n2 d2 n3 d3 w1.heap.size 0 (w.heap.size + 2) _ _ x1 x2 x3 p s v _ H.out (by decide) rfl rfl rfl H.own H.far (by simp; omega) hv hmax
  rw [← HR.out] at hc
  refine hc.mono ?_
  clear hc HR
  rintro e w2 ⟨a', m', d', rfl, k2, O2, far2, t2⟩
  have hS : ∀ j, (j = w1.heap.size ∨ (Value.slice a2 n2 d2).ownBlock = some j ∨ (Value.slice a3 n3 d3).ownBlock = some j) → w.heap.size + 2 ≤ j := by
    intro j hj
    rcases hj with rfl | e | e
    · omega
    · exact (H.own.2.1.lt j e).1
    · exact (H.own.2.2.1.lt j e).1
  have kr := turn_blk t2 H.res (fun e => by have := hS _ e; omega)
  have hB2 := below_turn H.below t2 (fun j hj => by have := hS j hj; omega) (by have := H.below.size; omega)
  have hz := t2.size
  simp only [World.size_alloc] at hz
  have k2' : Blk w2 w1.heap.size #[.slice a1 n1 d1, .slice a2 n2 d2, .slice a' m' d'] 24 := by simpa using k2
  obtain ⟨q5, q6, q7, q8⟩ := kr.three
  obtain ⟨q9, q10, q11, q12⟩ := k2'.three
  have HR := hide (And.intro O2 hB2)
  have KR := hide kr
  clear H O2 hB2 k2 k2' kr t2 hS far2
  go_wp2
  refine bodyPost_ret (v := .tuple #[.agg #[.slice a1 n1 d1, .slice a2 n2 d2, .slice a' m' d'], .int .i64 f]) (by simp [results, Try.results10, go_sem, q5, q6, q7]) rfl ⟨a1, n1, d1, a2, n2, d2, a', m', d', rfl, ?_, ?_⟩
  · exact own3_mono (own3_other (own3_other (own3_other HR.out.1 _ _ (by dsimp only; omega)) _ _ (by dsimp only; omega)) _ _ (by dsimp only; omega)) (by omega)
  · exact ((HR.out.2.setCell (by dsimp only; omega) _).setCell (by dsimp only; omega) _).setCell (by dsimp only; omega) _
end Go.Proofs.Ytngdgogjlpjjpac
