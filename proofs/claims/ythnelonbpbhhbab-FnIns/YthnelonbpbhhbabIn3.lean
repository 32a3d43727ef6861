import Derived.Test.YthnelonbpbhhbabIn1z
namespace Go.Proofs.Ythnelonbpbhhbab
open Go.RowKit
set_option linter.unusedVariables false
set_option linter.unusedSimpArgs false

theorem iTab_at (W : World) (i : Nat) (hi : i < 4) : ∃ o : Int, -1 ≤ o ∧ o ≤ 65536 ∧ (W.alloc (.cells #[.int .i64 65535, .int .i64 65536, .int .i64 (-1), .int .i64 7] 3)).cell? ⟨W.heap.size, i, none⟩ = some (.int .i64 o) := by
  have hc := (Blk.new W #[.int .i64 65535, .int .i64 65536, .int .i64 (-1), .int .i64 7] 3).cell i
  match i, hi with
  | 0, _ => exact ⟨_, by decide, by decide, hc⟩
  | 1, _ => exact ⟨_, by decide, by decide, hc⟩
  | 2, _ => exact ⟨_, by decide, by decide, hc⟩
  | 3, _ => exact ⟨_, by decide, by decide, hc⟩
  | i + 4, h => omega

def DePost (w : World) (e : Ending) (w' : World) : Prop := ∃ o d x i : Int, e = .returned (.agg #[.int .i64 o, .int .i64 d, .int .i64 x, .int .i64 i]) ∧ Below w.heap.size w w'
theorem de_end (fn : Func) (hf : fn.results = #[.cell 2 43]) (w W : World) (tmps : Array Value) (o d x i : Int) (h2 : tmps[2]? = some (.pointer (some ⟨w.heap.size, 0, none⟩)))
    (hz : Blk W w.heap.size #[.int .i64 o, .int .i64 d, .int .i64 x, .int .i64 i] 43) (hB : Below w.heap.size w W) :
    bodyPost Try.prog fn (DePost w) Exit.ret ⟨tmps, []⟩ W := by
  refine bodyPost_ret (v := .agg #[.int .i64 o, .int .i64 d, .int .i64 x, .int .i64 i]) ?_ rfl ⟨o, d, x, i, rfl, hB⟩
  obtain ⟨p1, p2, p3, p4, p5⟩ := hz.four'
  simp [results, hf, go_sem, h2, p1, p2, p3, p4]

set_option maxHeartbeats 2000000 in
theorem drawEncode_any (a : Option Addr) (n c : Nat) (zs : List Int) (w : World) (h : BS w a n c zs) :
    Calls Try.prog 20 #[.slice a n c] w (DePost w) := by
  have hB0 : Below w.heap.size w (w.alloc (.cells #[.int .i64 0, .int .i64 0, .int .i64 0, .int .i64 0] 43)) := (Below.refl _ _).alloc (Nat.le_refl _) _
  have k0 := Blk.new w #[.int .i64 0, .int .i64 0, .int .i64 0, .int .i64 0] 43
  have h0 := h.below hB0
  have hcode : n ≠ 0 → ∀ b off, a = some ⟨b, off, none⟩ → b < w.heap.size := by
    intro hn b off e
    subst e
    exact World.block_lt_of_cell? w _ (h.at 0 (by omega))
  have HC := hide hcode
  clear h hcode
  obtain ⟨n', hn'⟩ : ∃ n', n' = min n 1000 := ⟨_, rfl⟩
  have HN := hide hn'
  go_enter Try.func20, Try.ntmps20
  go_wp2_with fail
  refine (l1Open_any a n c n' zs _ h0 hn').mono ?_
  rintro e w1 ⟨rfl, hr1, hb1⟩
  clear hn' h0
  have hs1 := hb1.size
  have hl1 := hr1.blk.lt
  simp only [World.size_alloc] at hs1 hr1 hl1
  have hB1 := hB0.trans (hb1.mono (by simp))
  have k1 := k0.below hb1
  clear hb1 hB0 k0
  go_wp2_with fail
  refine (l3Ins_any (w.heap.size + 1) a n' c (zs.take 1000) 0 _ hr1 (fun h0 b off e => by have := HN.out; have := HC.out (by omega) b off e; omega)).mono ?_
  rintro e w2 ⟨o, d, x, i, k', rfl, _, hr2, t2⟩
  have hs2 := t2.size
  have hB2 := below_turn hB1 t2 (fun j hj => by omega) (by omega)
  have k2 := turn_blk t2 k1 (by omega)
  clear t2 hB1 k1 hr1
  obtain ⟨v1, E1, y0, y0'⟩ := draw_is hr2.bs k'
  obtain ⟨v2, E2, y1, y1'⟩ := draw_is hr2.bs (k' + 1)
  have hr2' := rdr_alloc hr2 (.cells #[.int .i64 o, .int .i64 d, .int .i64 x, .int .i64 i] 43)
  have k2' := k2.alloc (.cells #[.int .i64 o, .int .i64 d, .int .i64 x, .int .i64 i] 43)
  have g2 := Blk.new w2 #[.int .i64 o, .int .i64 d, .int .i64 x, .int .i64 i] 43
  have hB2' := hB2.alloc (by omega) (.cells #[.int .i64 o, .int .i64 d, .int .i64 x, .int .i64 i] 43)
  clear hr2 k2 hB2
  go_wp2_with fail
  refine (next_is (w.heap.size + 1) a n' c (zs.take 1000) k' v1 _ hr2' E1).mono ?_
  rintro e w3 ⟨rfl, hr3, t3⟩
  have hs3 := t3.size
  simp only [World.size_alloc] at hs3
  have hB3 := below_turn hB2' t3 (fun j hj => by omega) (by simp; omega)
  have k3 := turn_blk t3 k2' (by omega)
  have g3 := turn_blk t3 g2 (by omega)
  clear t3 hB2' k2' g2 hr2'
  by_cases h4 : v1 % 4 = 3
  · have h4' : (v1 % 4 == 3) = true := by simpa using h4
    clear h4
    go_wp2_with fail
    refine (next_is (w.heap.size + 1) a n' c (zs.take 1000) (k' + 1) v2 _ hr3 E2).mono ?_
    rintro e w4 ⟨rfl, hr4, t4⟩
    have hs4 := t4.size
    have hB4 := hide (below_turn hB3 t4 (fun j hj => by omega) (by omega))
    have k4 := turn_blk t4 k3 (by omega)
    have g4 := turn_blk t4 g3 (by omega)
    clear t4 hB3 k3 g3 hr3 hr4
    obtain ⟨q1, q2, q3, q4, q5⟩ := g4.four'
    obtain ⟨p1, p2, p3, p4, p5⟩ := k4.four'
    have K4 := hide k4
    clear k4 g4
    have hz4 : w2.heap.size < w4.heap.size := by omega
    have hz5 : w.heap.size < w4.heap.size := by omega
    have hz6 : w.heap.size < w2.heap.size := by omega
    have hj : v1 / 4 % 4 = 0 ∨ v1 / 4 % 4 = 1 ∨ v1 / 4 % 4 = 2 ∨ v1 / 4 % 4 = 3 := by omega
    rcases hj with hj | hj | hj | hj
    · go_wp2
      exact de_end _ Try.results20 w _ _ _ _ _ _ rfl (ins_set (K4.out.other _ _ (by dsimp only; omega)) _ _ _ _) (ins_below (Nat.le_refl _) (hB4.out.setCell (by dsimp only; omega) _) _ _ _ _)
    · go_wp2
      exact de_end _ Try.results20 w _ _ _ _ _ _ rfl (ins_set (K4.out.other _ _ (by dsimp only; omega)) _ _ _ _) (ins_below (Nat.le_refl _) (hB4.out.setCell (by dsimp only; omega) _) _ _ _ _)
    · go_wp2
      exact de_end _ Try.results20 w _ _ _ _ _ _ rfl (ins_set (K4.out.other _ _ (by dsimp only; omega)) _ _ _ _) (ins_below (Nat.le_refl _) (hB4.out.setCell (by dsimp only; omega) _) _ _ _ _)
    · obtain ⟨I, hI0, hI1, hI⟩ := iTab_at w4 (v2 % 4).toNat (by omega)
      go_wp2
      exact de_end _ Try.results20 w _ _ _ _ _ _ rfl ((ins_set (K4.out.other _ _ (by dsimp only; omega)) _ _ _ _).alloc _) ((ins_below (Nat.le_refl _) (hB4.out.setCell (by dsimp only; omega) _) _ _ _ _).alloc (by simp; omega) _)
  · have h4' : (v1 % 4 == 3) = false := by simpa using h4
    clear h4 hr3
    obtain ⟨q1, q2, q3, q4, q5⟩ := g3.four'
    obtain ⟨p1, p2, p3, p4, p5⟩ := k3.four'
    have K3 := hide k3
    clear k3 g3
    go_wp2
    exact de_end _ Try.results20 w _ _ _ _ _ _ rfl (ins_set K3.out _ _ _ _) (ins_below (Nat.le_refl _) hB3 _ _ _ _)
end Go.Proofs.Ythnelonbpbhhbab
