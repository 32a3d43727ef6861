import Derived.Test.YthnelonbpbhhbabDr4
namespace Go.Proofs.Ythnelonbpbhhbab
open Go.RowKit
set_option linter.unusedVariables false
set_option maxRecDepth 100000

theorem or_mono {w : World} {base base' : Nat} {v : Value} {rs : List Rg} (h : OR w base v rs) (hb : base' ≤ base) : OR w base' v rs := by
  refine ⟨?_, h.2⟩
  obtain ⟨hl, h0 | ⟨g', cap, cur, hv, hg, hh, h1, h2, h3, h4⟩⟩ := h.1
  · exact ⟨hl, .inl h0⟩
  · exact ⟨hl, .inr ⟨g', cap, cur, hv, by omega, hh, h1, h2, h3, h4⟩⟩
theorem wrapk_wfi (z : Int) : wfi (IntKind.i64.wrap z) := by
  unfold wfi
  simp only [IntKind.wrap, IntKind.bits, IntKind.signed]
  simp
  omega
def AlPost (w : World) (e : Ending) (w' : World) : Prop :=
  ∃ (x : Option Addr) (m cap : Nat) (rs : List Rg) (p s k : Int), e = .returned (.tuple #[.slice x m cap, .int .i64 p, .int .i64 s, .int .i64 k]) ∧ m ≤ 20 ∧ OR w' w.heap.size (.slice x m cap) rs ∧ wfi p ∧ wfi s ∧ wfi k ∧ Below w.heap.size w w'

theorem al_end {w W W' : World} {B : Nat} {x : Option Addr} {m cap : Nat} {rs : List Rg} {p s k : Int} (hm : m ≤ 20) (hO : OR W B (.slice x m cap) rs) (hB : w.heap.size ≤ B) (hb : Below w.heap.size w W) (hz : w.heap.size ≤ W.heap.size) (hb' : Below W.heap.size W W') (hp : wfi p) (hs : wfi s) (hk : wfi k) :
    AlPost w (.returned (.tuple #[.slice x m cap, .int .i64 p, .int .i64 s, .int .i64 k])) W' :=
  ⟨x, m, cap, rs, p, s, k, rfl, hm, or_mono (turn_or (S := fun _ => False) (turn_below hb') hO (fun _ _ e => e)) hB, hp, hs, hk, hb.trans (hb'.mono hz)⟩

set_option maxHeartbeats 4000000 in
theorem drawAllowed_any (a : Option Addr) (n c : Nat) (zs : List Int) (w : World) (h : BS w a n c zs) :
    Calls Try.prog 30 #[.slice a n c] w (AlPost w) := by
  have hfar : n ≠ 0 → ∀ b off, a = some ⟨b, off, none⟩ → b < w.heap.size := by
    intro hn b off e
    subst e
    exact World.block_lt_of_cell? w _ (h.at 0 (by omega))
  have HFAR := hide hfar
  clear hfar
  obtain ⟨n', hn'⟩ : ∃ n', n' = min n 1000 := ⟨_, rfl⟩
  have HN := hide hn'
  go_enter Try.func30, Try.ntmps30
  go_wp2_with fail
  refine (l1Open_any a n c n' zs _ h hn').mono ?_
  rintro e w1 ⟨rfl, h1, hb1⟩
  clear hn'
  have hz1 := h1.blk.lt
  go_wp2_with fail
  refine (l2Regions_any w.heap.size a n' c (zs.take 1000) 0 _ h1 (fun h0 b off e => by have := HN.out; have := HFAR.out (by omega) b off e; omega)).mono ?_
  rintro e w2 ⟨x, m, cap, rs, k', rfl, hm, hO, hR, hT⟩
  have hB2 := below_turn hb1 hT (fun k hk => by omega) (by omega)
  obtain ⟨v1, E1, y0, y0'⟩ := draw_is hR.bs k'
  obtain ⟨v2, E2, y1, y1'⟩ := draw_is hR.bs (k' + 1)
  obtain ⟨v3, E3, y2, y2'⟩ := draw_is hR.bs (k' + 1 + 1)
  have hz2 := hT.size
  clear h1 hb1 hT
  go_wp2_with fail
  refine (next_is w.heap.size a n' c (zs.take 1000) k' v1 _ hR E1).mono ?_
  rintro e w3 ⟨rfl, hR3, t3⟩
  have hO3 := turn_or t3 hO (fun k hk e => by omega)
  have hB3 := below_turn hB2 t3 (fun k hk => by omega) (by omega)
  have hz3 := t3.size
  clear t3 hO hB2 hR
  go_wp2_with fail
  refine (next_is w.heap.size a n' c (zs.take 1000) (k' + 1) v2 _ hR3 E2).mono ?_
  rintro e w4 ⟨rfl, hR4, t4⟩
  have hO4 := turn_or t4 hO3 (fun k hk e => by omega)
  have hB4 := below_turn hB3 t4 (fun k hk => by omega) (by omega)
  have hz4 := t4.size
  clear t4 hO3 hB3 hR3
  have hS := or_rs hO4
  have hmx := hS.2.1
  by_cases hcnd : v1 % 2 = 1 ∧ 0 < m
  · obtain ⟨hodd, hm0⟩ := hcnd
    have g0 : (v1 % 2 == 1) = true := by simpa using hodd
    have hm0' : (0 : Int) < (m : Int) := by omega
    obtain ⟨b, off, rfl⟩ := hS.some (by omega)
    have hat := hS.at 0 (by omega)
    have hwg := hS.2.2.1 (rs.getD 0 z6) (by simp [List.getD_eq_getElem?_getD, show 0 < rs.length by have := hS.1; omega])
    have q1 := hat.1
    simp only [Nat.zero_mul, Nat.add_zero] at q1
    have hbb : b ≠ w.heap.size := by
      intro e
      have := hO4.1.lt b rfl
      omega
    generalize (rs.getD 0 z6).1 = gb at *
    clear hodd hat hwg
    have hw2 : IntKind.i64.wrap (v3 * 2) = v3 * 2 := wrap_i64 (by omega) (by omega)
    go_wp2
    go_region_held3 (fun w' => w'.cell? ⟨b, off, none⟩ = some (.int .i64 gb)) (go_keep)
      (first
        | (go_at_call 38; refine (next_is w.heap.size a n' c (zs.take 1000) (k' + 1 + 1) v3 _ (by exact rdr_below hR4 (Below.refl _ _).drew) E3).mono ?_; rintro e w5 ⟨rfl, hR5, t5⟩; have q5 := (World.cell?_of_block (w := w4) (a := ⟨b, off, none⟩) (t5.block b (World.block_lt_of_cell? w4 _ q1) hbb)).trans q1))
    have t5' : Turn (fun j => j = w.heap.size) w4 w5 := ⟨t5.os, t5.tape, t5.output, t5.size, t5.block⟩
    have hO5 := turn_or t5' hO4 (fun k hk e => by omega)
    have hB5 := below_turn hB4 t5' (fun k hk => by omega) (by omega)
    have hz5 := t5'.size
    clear t5 t5' q1 q5 hR5 hR4 hO4 hB4 hS hw2
    go_wp2
    have hj : v1 / 2 % 6 = 0 ∨ v1 / 2 % 6 = 1 ∨ v1 / 2 % 6 = 2 ∨ v1 / 2 % 6 = 3 ∨ v1 / 2 % 6 = 4 ∨ v1 / 2 % 6 = 5 := by omega
    rcases hj with hj | hj | hj | hj | hj | hj
    all_goals
      go_region
      go_wp2
      refine bodyPost_ret_by (by simp [results, Try.results30, go_sem]; exact ⟨rfl, rfl, rfl⟩) rfl (al_end (by omega) hO5 (by omega) hB5 (by omega) ?_ ?_ ?_ ?_)
      · first | exact ((Below.refl _ _).alloc (Nat.le_refl _) _).drew | exact (Below.refl _ _).drew.alloc (Nat.le_refl _) _
      all_goals first | exact wrap_wfi _ | exact wrapk_wfi _ | (unfold wfi; omega)
  · by_cases hodd : v1 % 2 = 1
    · have hm0 : m = 0 := by omega
      subst hm0
      have g0 : (v1 % 2 == 1) = true := by simpa using hodd
      clear hodd hcnd
      go_wp2
      have hj : v1 / 2 % 6 = 0 ∨ v1 / 2 % 6 = 1 ∨ v1 / 2 % 6 = 2 ∨ v1 / 2 % 6 = 3 ∨ v1 / 2 % 6 = 4 ∨ v1 / 2 % 6 = 5 := by omega
      rcases hj with hj | hj | hj | hj | hj | hj
      all_goals
        go_region
        go_wp2
        refine bodyPost_ret_by (by simp [results, Try.results30, go_sem]; exact ⟨rfl, rfl, rfl⟩) rfl (al_end (by omega) hO4 (by omega) hB4 (by omega) ?_ ?_ ?_ ?_)
        · first | exact ((Below.refl _ _).alloc (Nat.le_refl _) _).drew | exact (Below.refl _ _).drew.alloc (Nat.le_refl _) _
        all_goals first | exact wrap_wfi _ | exact wrapk_wfi _ | (unfold wfi; omega)
    · have g0 : (v1 % 2 == 1) = false := by simpa using hodd
      clear hodd hcnd
      go_wp2
      have hj : v1 / 2 % 6 = 0 ∨ v1 / 2 % 6 = 1 ∨ v1 / 2 % 6 = 2 ∨ v1 / 2 % 6 = 3 ∨ v1 / 2 % 6 = 4 ∨ v1 / 2 % 6 = 5 := by omega
      rcases hj with hj | hj | hj | hj | hj | hj
      all_goals
        go_region
        go_wp2
        refine bodyPost_ret_by (by simp [results, Try.results30, go_sem]; exact ⟨rfl, rfl, rfl⟩) rfl (al_end (by omega) hO4 (by omega) hB4 (by omega) ?_ ?_ ?_ ?_)
        · first | exact ((Below.refl _ _).alloc (Nat.le_refl _) _).drew | exact (Below.refl _ _).drew.alloc (Nat.le_refl _) _
        all_goals first | exact wrap_wfi _ | exact wrapk_wfi _ | (unfold wfi; omega)
end Go.Proofs.Ythnelonbpbhhbab
