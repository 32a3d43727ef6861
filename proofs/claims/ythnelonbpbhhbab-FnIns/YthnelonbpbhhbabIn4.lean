import Derived.Test.YthnelonbpbhhbabIn2
import Derived.Deep.RegionWith
namespace Go.Proofs.Ythnelonbpbhhbab
open Go.RowKit
set_option linter.unusedVariables false
set_option linter.unusedSimpArgs false

theorem encV_range (op d a i : Int) : 0 ≤ encV op d a i ∧ encV op d a i ≤ 4294967295 := by
  unfold encV
  cases h : okI op d a i
  · simp
  · obtain ⟨h1, h2, h3, h4, h5, h6, h7, h8⟩ := okI_bounds h
    simp only [if_true, enc]
    omega

set_option maxHeartbeats 1000000 in
theorem l3Random_any (r : Nat) (a : Option Addr) (n c : Nat) (zs : List Int) (k : Nat) (w : World) (h : Rdr w r a n c zs k) (hcode : n ≠ 0 → ∀ b off, a = some ⟨b, off, none⟩ → b < w.heap.size) :
    Calls Try.prog 62 #[.pointer (some ⟨r, 0, none⟩)] w fun e w' => ∃ (v : Int) (k' : Nat), e = .returned (.int .i64 v) ∧ (0 ≤ v ∧ v ≤ 4294967295) ∧ Rdr w' r a n c zs k' ∧ Turn (fun j => j = r) w w' := by
  go_enter Try.func62, Try.ntmps62
  go_wp2_with fail
  refine (l3Ins_any r a n c zs k _ h hcode).mono ?_
  rintro e w1 ⟨o, d, x, i, k', rfl, _, hr1, t1⟩
  go_wp2_with fail
  refine (sEncode_any o d x i _).mono ?_
  rintro e w2 ⟨rfl, hb2⟩
  go_wp2
  go_ret
  exact ⟨_, k', rfl, encV_range o d x i, rdr_below hr1 hb2, t1.trans (turn_below hb2)⟩

theorem rdr_as {W W' : World} {r : Nat} {a : Option Addr} {n c : Nat} {zs : List Int} {k : Nat} (h : Rdr W r a n c zs k) (e : W'.heap = W.heap) : Rdr W' r a n c zs k := by
  have hb : Below W.heap.size { W with heap := W.heap } W' ∨ True := Or.inr trivial
  refine ⟨?_, ?_, h.small, h.far⟩
  · have := h.blk; unfold Blk at *; rw [e]; exact this
  · obtain ⟨h1, h2, h3, h4, h5⟩ := h.bs
    refine ⟨h1, h2, h3, fun hn => ?_, h5⟩
    obtain ⟨b, off, ha, hc⟩ := h4 hn
    refine ⟨b, off, ha, fun i hi => ?_⟩
    rw [World.cell?_of_block (w := W) (by rw [e])]
    exact hc i hi

set_option maxRecDepth 100000 in
set_option maxHeartbeats 2000000 in
theorem drawDecode_any (a : Option Addr) (n c : Nat) (zs : List Int) (w : World) (h : BS w a n c zs) :
    Calls Try.prog 24 #[.slice a n c] w fun e w' => ∃ x : Int, e = .returned (.int .i64 x) ∧ Below w.heap.size w w' := by
  have hcode : n ≠ 0 → ∀ b off, a = some ⟨b, off, none⟩ → b < w.heap.size := by
    intro hn b off e
    subst e
    exact World.block_lt_of_cell? w _ (h.at 0 (by omega))
  have HC := hide hcode
  clear hcode
  obtain ⟨n', hn'⟩ : ∃ n', n' = min n 1000 := ⟨_, rfl⟩
  have HN := hide hn'
  go_enter Try.func24, Try.ntmps24
  go_wp2_with fail
  refine (l1Open_any a n c n' zs _ h hn').mono ?_
  rintro e w1 ⟨rfl, hr1, hb1⟩
  clear hn' h
  have hs1 := hb1.size
  have hl1 := hr1.blk.lt
  obtain ⟨v1, E1, y0, y0'⟩ := draw_is hr1.bs 0
  go_wp2_with fail
  refine (next_is w.heap.size a n' c (zs.take 1000) 0 v1 _ hr1 E1).mono ?_
  rintro e w2 ⟨rfl, hr2, t2⟩
  have hs2 := t2.size
  have hB2 := below_turn hb1 t2 (fun j hj => by omega) (by omega)
  clear t2 hb1 hr1
  go_wp2_with fail
  refine (l3Random_any w.heap.size a n' c (zs.take 1000) 1 _ hr2 (fun h0 b off e => by have := HN.out; have := HC.out (by omega) b off e; omega)).mono ?_
  rintro e w3 ⟨v, k', rfl, ⟨hv0, hv1⟩, hr3, t3⟩
  have hs3 := t3.size
  have hB3 := below_turn hB2 t3 (fun j hj => by omega) (by omega)
  clear t3 hB2 hr2
  obtain ⟨v2, E2, y1, y1'⟩ := draw_is hr3.bs k'
  obtain ⟨v3, E3, y2, y2'⟩ := draw_is hr3.bs (k' + 1)
  by_cases h4 : v1 % 4 = 3
  · have h4' : (v1 % 4 == 3) = true := by simpa using h4
    have h2' : (v1 == 2) = false := by simp; omega
    clear h4
    have hj : v1 / 4 % 2 = 0 ∨ v1 / 4 % 2 = 1 := by omega
    have hp := pow_lt (v2 % 16).toNat (by omega)
    have hp0 := pow_pos (v2 % 16).toNat
    have e1 := hide (show v2.tmod 16 = v2 % 16 from Int.tmod_eq_emod_of_nonneg y1)
    have ew : (IntKind.i64.wrap (v1.tdiv 4)).tmod 2 = v1 / 4 % 2 := by
      rw [Int.tdiv_eq_ediv_of_nonneg y0, wraps62 (v1 / 4) (by omega) (by omega), Int.tmod_eq_emod_of_nonneg (by omega)]
    rcases hj with hj | hj
    all_goals
      rw [hj] at ew
      go_wp2
      go_region_with (first
        | (go_at_call 38; refine (next_is w.heap.size a n' c (zs.take 1000) k' v2 _ ?_ E2).mono ?_; (first | exact hr3 | (refine rdr_as hr3 ?_; simp only [heap_drew])); rintro e w4 ⟨rfl, hr4, t4⟩; have hB4 := hide (below_turn (a := w) (B := w.heap.size) (by first | exact hB3.drew | exact hB3) t4 (fun j hj => by omega) (by first | omega | (simp only [heap_drew]; omega) | (simp; omega))))
        | (go_at_call 38; refine (next_is w.heap.size a n' c (zs.take 1000) k' v2 _ ?_ E2).mono ?_; (first | exact rdr_alloc hr3 _ | (refine rdr_as (rdr_alloc hr3 (.cells #[.int .i64 1, .int .i64 65536] 3)) ?_; simp only [heap_drew]) | (refine rdr_alloc (rdr_as hr3 ?_) _; simp only [heap_drew])); rintro e w4 ⟨rfl, hr4, t4⟩; obtain ⟨c1, c2, c3⟩ := (turn_blk t4 (Blk.new _ #[.int .i64 1, .int .i64 65536] 3) (by first | omega | (simp only [heap_drew]; omega) | (simp; omega))).two; have hB4 := hide (below_turn (a := w) (B := w.heap.size) (by first | exact (hB3.alloc (by omega) _).drew | exact hB3.drew.alloc (by simp only [heap_drew]; omega) _ | exact hB3.alloc (by omega) _) t4 (fun j hj => by omega) (by first | omega | (simp only [heap_drew, World.size_alloc]; omega) | (simp; omega))))
        | (go_at_call 43; rw [e1.out]; refine (l2Power_any (v2 % 16) (by omega) (by omega) _).mono ?_; rintro e w5 ⟨rfl, rfl⟩)
        | (rw [ew]))
    all_goals
      go_wp2
      go_ret
      exact ⟨_, rfl, by first | exact hB4.out | exact hB4.out.alloc (by have := hB4.out.size; omega) _⟩
  · have h4' : (v1 % 4 == 3) = false := by simpa using h4
    clear h4
    by_cases h2 : v1 = 2
    · subst h2
      go_wp2_with fail
      refine (next_is w.heap.size a n' c (zs.take 1000) k' v2 _ hr3 E2).mono ?_
      rintro e w4 ⟨rfl, hr4, t4⟩
      have hB4 := below_turn hB3 t4 (fun j hj => by omega) (by omega)
      go_wp2
      go_ret
      exact ⟨_, rfl, hB4⟩
    · have h2' : (v1 == 2) = false := by simpa using h2
      clear h2
      go_wp2
      go_ret
      exact ⟨_, rfl, hB3⟩
end Go.Proofs.Ythnelonbpbhhbab
