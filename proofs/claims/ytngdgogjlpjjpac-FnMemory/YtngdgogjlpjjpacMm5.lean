import Derived.Test.YtngdgogjlpjjpacMm4
namespace Go.Proofs.Ytngdgogjlpjjpac
open Go.RowKit
set_option linter.unusedVariables false
set_option linter.unusedSimpArgs false
set_option maxRecDepth 100000

theorem mm_len {zs : List Int} (h : 0 ≤ zs.getD 0 0 ∧ zs.getD 0 0 ≤ 255) : (mmF zs 0).length ≤ 20000 ∧ (mmR zs 0).length ≤ 20000 ∧ (mmO zs 0).length ≤ 20000 := by
  have hN : mmN (zs.getD 0 0) ≤ 32 := by unfold mmN; omega
  refine ⟨?_, ?_, ?_⟩
  · unfold mmF; split
    · rw [List.length_replicate]; omega
    · rw [every2_len]; omega
  · unfold mmR; split
    · rw [List.length_replicate]; omega
    · rw [every2_len]; omega
  · unfold mmO; split
    · rw [List.length_replicate]; omega
    · simp

/-- WHAT DrawWrite GIVES. -/
def DwPost (w : World) (y1 y2 y3 : List Int) (e : Ending) (w' : World) : Prop :=
  ∃ (b1 d1 b2 d2 b3 d3 : Nat) (p s v : Int), e = .returned (.tuple #[.agg #[.slice (some ⟨b1, 0, none⟩) y1.length d1, .slice (some ⟨b2, 0, none⟩) y2.length d2, .slice (some ⟨b3, 0, none⟩) y3.length d3], .int .i64 p, .int .i64 s, .int .i64 v]) ∧ BS w' (some ⟨b1, 0, none⟩) y1.length d1 y1 ∧ BS w' (some ⟨b2, 0, none⟩) y2.length d2 y2 ∧ BS w' (some ⟨b3, 0, none⟩) y3.length d3 y3 ∧ (-1000 ≤ p ∧ p ≤ 1000000) ∧ (1 ≤ s ∧ s ≤ 4) ∧ (-4294967296 ≤ v ∧ v ≤ 4294967296) ∧ Below w.heap.size w w'

theorem dw_end (fn : Func) (hf : fn.results = #[.cell 2 24, .tmp 3, .tmp 4, .tmp 5]) (w W : World) (tmps : Array Value) (y1 y2 y3 : List Int) (b1 d1 b2 d2 b3 d3 : Nat) (p s v : Int)
    (h2 : tmps[2]? = some (.pointer (some ⟨w.heap.size, 0, none⟩))) (h3 : tmps[3]? = some (.int .i64 p)) (h4 : tmps[4]? = some (.int .i64 s)) (h5 : tmps[5]? = some (.int .i64 v))
    (hz : Blk W w.heap.size #[.slice none 0 0, .slice none 0 0, .slice none 0 0] 24) (B1 : BS W (some ⟨b1, 0, none⟩) y1.length d1 y1) (B2 : BS W (some ⟨b2, 0, none⟩) y2.length d2 y2) (B3 : BS W (some ⟨b3, 0, none⟩) y3.length d3 y3)
    (l1 : w.heap.size < b1) (l2 : w.heap.size < b2) (l3 : w.heap.size < b3) (hp : -1000 ≤ p ∧ p ≤ 1000000) (hs : 1 ≤ s ∧ s ≤ 4) (hv : -4294967296 ≤ v ∧ v ≤ 4294967296) (hB : Below w.heap.size w W) :
    bodyPost Try.prog fn (DwPost w y1 y2 y3) Exit.ret ⟨tmps, []⟩ (((W.setCell ⟨w.heap.size, 0, none⟩ (.slice (some ⟨b1, 0, none⟩) y1.length d1)).setCell ⟨w.heap.size, 1, none⟩ (.slice (some ⟨b2, 0, none⟩) y2.length d2)).setCell ⟨w.heap.size, 2, none⟩ (.slice (some ⟨b3, 0, none⟩) y3.length d3)) := by
  have st : ∀ (V : World) (i : Nat) (v : Value), Turn (fun j => j = w.heap.size) V (V.setCell ⟨w.heap.size, i, none⟩ v) := fun V i v => turn_set V _ i v
  have T3 := ((st W 0 (.slice (some ⟨b1, 0, none⟩) y1.length d1)).trans (st _ 1 (.slice (some ⟨b2, 0, none⟩) y2.length d2))).trans (st _ 2 (.slice (some ⟨b3, 0, none⟩) y3.length d3))
  have hz2 := ((hz.set 0 (.slice (some ⟨b1, 0, none⟩) y1.length d1)).set 1 (.slice (some ⟨b2, 0, none⟩) y2.length d2)).set 2 (.slice (some ⟨b3, 0, none⟩) y3.length d3)
  have C1 := turn_bs T3 B1 (fun k hk b off e => by injection e with e; injection e with e; omega)
  have C2 := turn_bs T3 B2 (fun k hk b off e => by injection e with e; injection e with e; omega)
  have C3 := turn_bs T3 B3 (fun k hk b off e => by injection e with e; injection e with e; omega)
  have hB3 := below_turn hB T3 (fun k hk => by omega) hB.size
  generalize ((W.setCell ⟨w.heap.size, 0, none⟩ (.slice (some ⟨b1, 0, none⟩) y1.length d1)).setCell ⟨w.heap.size, 1, none⟩ (.slice (some ⟨b2, 0, none⟩) y2.length d2)).setCell ⟨w.heap.size, 2, none⟩ (.slice (some ⟨b3, 0, none⟩) y3.length d3) = V at *
  refine bodyPost_ret (v := .tuple #[.agg #[.slice (some ⟨b1, 0, none⟩) y1.length d1, .slice (some ⟨b2, 0, none⟩) y2.length d2, .slice (some ⟨b3, 0, none⟩) y3.length d3], .int .i64 p, .int .i64 s, .int .i64 v]) ?_ rfl ⟨b1, d1, b2, d2, b3, d3, p, s, v, rfl, C1, C2, C3, hp, hs, hv, hB3⟩
  have hz' : Blk V w.heap.size #[.slice (some ⟨b1, 0, none⟩) y1.length d1, .slice (some ⟨b2, 0, none⟩) y2.length d2, .slice (some ⟨b3, 0, none⟩) y3.length d3] 24 := by simpa using hz2
  obtain ⟨p1, p2, p3, p4⟩ := hz'.three
  simp [results, hf, go_sem, h2, h3, h4, h5, p1, p2, p3]

set_option maxHeartbeats 2000000 in
theorem drawWrite_any (a : Option Addr) (n c : Nat) (zs : List Int) (w : World) (h : BS w a n c zs) :
    Calls Try.prog 8 #[.slice a n c] w (DwPost w (mmF (zs.take 1000) 0) (mmR (zs.take 1000) 0) (mmO (zs.take 1000) 0)) := by
  have hB0 : Below w.heap.size w (w.alloc (.cells #[.slice none 0 0, .slice none 0 0, .slice none 0 0] 24)) := (Below.refl _ _).alloc (Nat.le_refl _) _
  have k0 := Blk.new w #[.slice none 0 0, .slice none 0 0, .slice none 0 0] 24
  have h0 := h.below hB0
  have hcode : n ≠ 0 → ∀ b off, a = some ⟨b, off, none⟩ → b < w.heap.size := by
    intro hn b off e
    subst e
    exact World.block_lt_of_cell? w _ (h.at 0 (by omega))
  have HC := hide hcode
  clear h hcode
  obtain ⟨n', hn'⟩ : ∃ n', n' = min n 1000 := ⟨_, rfl⟩
  have HN := hide hn'
  go_enter Try.func8, Try.ntmps8
  go_wp2_with fail
  refine (l1Open_any a n c n' zs _ h0 hn').mono ?_
  rintro e w1 ⟨rfl, hr1, hb1⟩
  clear hn' h0
  have hs1 := hb1.size
  have hl1 := hr1.blk.lt
  simp only [World.size_alloc] at hs1 hr1 hl1
  have hB1 := hB0.trans (hb1.mono (by simp))
  have k1 := k0.below hb1
  have hlen := hide (mm_len (hr1.bs.range 0))
  clear hb1 hB0 k0
  go_wp2_with fail
  refine (l1Mem_any (w.heap.size + 1) a n' c (zs.take 1000) 0 _ hr1 (fun h0 b off e => by have := HN.out; have := HC.out (by omega) b off e; omega)).mono ?_
  rintro e w2 ⟨b1, d1, b2, d2, b3, d3, rfl, B1, B2, B3, l1, l2, l3, hr2, t2⟩
  have hs2 := t2.size
  have hB2 := below_turn hB1 t2 (fun j hj => by omega) (by omega)
  have k2 := turn_blk t2 k1 (by omega)
  clear t2 hB1 k1 hr1
  generalize mmF (zs.take 1000) 0 = Y1 at *
  generalize mmR (zs.take 1000) 0 = Y2 at *
  generalize mmO (zs.take 1000) 0 = Y3 at *
  generalize 0 + 1 + 2 * mmN ((zs.take 1000).getD 0 0) = kk at *
  have al : Below w2.heap.size w2 (w2.alloc (.cells #[.slice (some ⟨b1, 0, none⟩) Y1.length d1, .slice (some ⟨b2, 0, none⟩) Y2.length d2, .slice (some ⟨b3, 0, none⟩) Y3.length d3] 24)) := (Below.refl _ _).alloc (Nat.le_refl _) _
  have g2 := Blk.new w2 #[.slice (some ⟨b1, 0, none⟩) Y1.length d1, .slice (some ⟨b2, 0, none⟩) Y2.length d2, .slice (some ⟨b3, 0, none⟩) Y3.length d3] 24
  have k2 := k2.below al
  have B1 := B1.below al
  have B2 := B2.below al
  have B3 := B3.below al
  have hr2 := rdr_below hr2 al
  have hB2 := hB2.trans (al.mono (by omega))
  clear al
  go_wp2_with fail
  refine (l1Where_any (w.heap.size + 1) a n' c (zs.take 1000) kk _ hr2 _ _ _ _ _ _ _ _ _ (by have := hlen.out; omega)).mono ?_
  rintro e w3 ⟨p, s, rfl, hp, hsz, hr3, t3⟩
  have hs3 := t3.size
  simp only [World.size_alloc] at hs3
  have hB3 := below_turn hB2 t3 (fun j hj => by omega) (by simp; omega)
  have k3 := turn_blk t3 k2 (by omega)
  have g3 := turn_blk t3 g2 (by omega)
  have B1 := turn_bs t3 B1 (fun k hk b off e => by injection e with e; injection e with e; omega)
  have B2 := turn_bs t3 B2 (fun k hk b off e => by injection e with e; injection e with e; omega)
  have B3 := turn_bs t3 B3 (fun k hk b off e => by injection e with e; injection e with e; omega)
  clear t3 hB2 k2 g2 hr2
  obtain ⟨v1, E1, y0, y0'⟩ := draw_is hr3.bs (kk + 1 + 1)
  obtain ⟨v2, E2, y1, y1'⟩ := draw_is hr3.bs (kk + 1 + 1 + 1)
  obtain ⟨v3, E3, y2, y2'⟩ := draw_is hr3.bs (kk + 1 + 1 + 1 + 1)
  obtain ⟨v4, E4, y3, y3'⟩ := draw_is hr3.bs (kk + 1 + 1 + 1 + 1 + 1)
  go_wp2_with fail
  refine (next_is (w.heap.size + 1) a n' c (zs.take 1000) (kk + 1 + 1) v1 _ hr3 E1).mono ?_
  rintro e w4 ⟨rfl, hr4, t4⟩
  have hs4 := t4.size
  have hB4 := below_turn hB3 t4 (fun j hj => by omega) (by omega)
  have k4 := turn_blk t4 k3 (by omega)
  have g4 := turn_blk t4 g3 (by omega)
  have B1 := turn_bs t4 B1 (fun k hk b off e => by injection e with e; injection e with e; omega)
  have B2 := turn_bs t4 B2 (fun k hk b off e => by injection e with e; injection e with e; omega)
  have B3 := turn_bs t4 B3 (fun k hk b off e => by injection e with e; injection e with e; omega)
  clear t4 hB3 k3 g3 hr3
  go_wp2_with fail
  refine (next_is (w.heap.size + 1) a n' c (zs.take 1000) (kk + 1 + 1 + 1) v2 _ hr4 E2).mono ?_
  rintro e w5 ⟨rfl, hr5, t5⟩
  have hs5 := t5.size
  have hB5 := below_turn hB4 t5 (fun j hj => by omega) (by omega)
  have k5 := turn_blk t5 k4 (by omega)
  have g5 := turn_blk t5 g4 (by omega)
  have B1 := turn_bs t5 B1 (fun k hk b off e => by injection e with e; injection e with e; omega)
  have B2 := turn_bs t5 B2 (fun k hk b off e => by injection e with e; injection e with e; omega)
  have B3 := turn_bs t5 B3 (fun k hk b off e => by injection e with e; injection e with e; omega)
  clear t5 hB4 k4 g4 hr4
  go_wp2_with fail
  refine (next_is (w.heap.size + 1) a n' c (zs.take 1000) (kk + 1 + 1 + 1 + 1) v3 _ hr5 E3).mono ?_
  rintro e w6 ⟨rfl, hr6, t6⟩
  have hs6 := t6.size
  have hB6 := below_turn hB5 t6 (fun j hj => by omega) (by omega)
  have k6 := turn_blk t6 k5 (by omega)
  have g6 := turn_blk t6 g5 (by omega)
  have B1 := turn_bs t6 B1 (fun k hk b off e => by injection e with e; injection e with e; omega)
  have B2 := turn_bs t6 B2 (fun k hk b off e => by injection e with e; injection e with e; omega)
  have B3 := turn_bs t6 B3 (fun k hk b off e => by injection e with e; injection e with e; omega)
  clear t6 hB5 k5 g5 hr5
  go_wp2_with fail
  refine (next_is (w.heap.size + 1) a n' c (zs.take 1000) (kk + 1 + 1 + 1 + 1 + 1) v4 _ hr6 E4).mono ?_
  rintro e w7 ⟨rfl, hr7, t7⟩
  have hs7 := t7.size
  have hB7 := below_turn hB6 t7 (fun j hj => by omega) (by omega)
  have k7 := turn_blk t7 k6 (by omega)
  have g7 := turn_blk t7 g6 (by omega)
  have B1 := turn_bs t7 B1 (fun k hk b off e => by injection e with e; injection e with e; omega)
  have B2 := turn_bs t7 B2 (fun k hk b off e => by injection e with e; injection e with e; omega)
  have B3 := turn_bs t7 B3 (fun k hk b off e => by injection e with e; injection e with e; omega)
  clear t7 hB6 k6 g6 hr6
  obtain ⟨q1, q2, q3, q4⟩ := g7.three
  obtain ⟨p1, p2, p3, p4⟩ := k7.three
  have HX := hide (And.intro k7 (And.intro B1 (And.intro B2 (And.intro B3 hB7))))
  clear k7 g7 B1 B2 B3 hB7 hr7
  go_wp2
  all_goals
    exact dw_end _ Try.results8 w _ _ Y1 Y2 Y3 b1 d1 b2 d2 b3 d3 p s _ rfl rfl rfl rfl HX.out.1 HX.out.2.1 HX.out.2.2.1 HX.out.2.2.2.1 (by omega) (by omega) (by omega) hp hsz (by omega) HX.out.2.2.2.2
end Go.Proofs.Ytngdgogjlpjjpac
