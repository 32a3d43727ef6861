import Derived.Test.YthnelonbpbhhbabDr1
import Derived.Test.YthnelonbpbhhbabAl4
import Derived.Test.YthnelonbpbhhbabAl5
namespace Go.Proofs.Ythnelonbpbhhbab
open Go.RowKit
set_option linter.unusedVariables false

theorem turn_in {S : Nat → Prop} {w W W' : World} (h : Turn S w W) (t : Turn S W W') : Turn S w W' := h.trans t
theorem rdr_turn {S : Nat → Prop} {W W' : World} {r : Nat} {a : Option Addr} {n c : Nat} {zs : List Int} {k : Nat} (h : Rdr W r a n c zs k) (t : Turn S W W') (hr : ¬ S r) (ha : n ≠ 0 → ∀ j, S j → ∀ b off, a = some ⟨b, off, none⟩ → b ≠ j) : Rdr W' r a n c zs k :=
  ⟨turn_blk t h.blk hr, turn_bs' t h.bs ha, h.small, h.far⟩

theorem turn_new {S : Nat → Prop} {w W : World} (h : Turn S w W) {b : Nat} (hb : w.heap.size ≤ b) (i : Nat) (v : Value) : Turn S w (W.setCell ⟨b, i, none⟩ v) :=
  ⟨h.os, h.tape, h.output, by rw [size_setCell]; exact h.size, fun k hk hn => by rw [heap_setCell_other _ _ _ _ (by dsimp only; omega)]; exact h.block k hk hn⟩
theorem turn_more {S : Nat → Prop} {w W : World} (h : Turn S w W) (o : Obj) : Turn S w (W.alloc o) := h.trans (turn_alloc W o)
theorem rdr_set {W : World} {r : Nat} {a : Option Addr} {n c : Nat} {zs : List Int} {k : Nat} (h : Rdr W r a n c zs k) {b : Nat} (hb : r ≠ b) (ha : n ≠ 0 → ∀ b' off, a = some ⟨b', off, none⟩ → b' ≠ b) (i : Nat) (v : Value) : Rdr (W.setCell ⟨b, i, none⟩ v) r a n c zs k :=
  rdr_turn h (turn_set W b i v) hb (fun h0 j hj b' off e => by subst hj; exact ha h0 b' off e)
theorem rdr_alloc {W : World} {r : Nat} {a : Option Addr} {n c : Nat} {zs : List Int} {k : Nat} (h : Rdr W r a n c zs k) (o : Obj) : Rdr (W.alloc o) r a n c zs k := rdr_below h ((Below.refl _ _).alloc (Nat.le_refl _) o)

def DrPost (w : World) (r : Nat) (a : Option Addr) (n c : Nat) (zs : List Int) (e : Ending) (w' : World) : Prop :=
  ∃ (g1 g2 g3 : Int) (g4 g5 g6 : Bool) (k' : Nat), e = .returned (.agg #[.int .i64 g1, .int .i64 g2, .int .i64 g3, .bool g4, .bool g5, .bool g6]) ∧ (wfi g1 ∧ wfi g2 ∧ wfi g3) ∧ Rdr w' r a n c zs k' ∧ Turn (fun j => j = r) w w'

theorem region_end (w w2 : World) (r : Nat) (a : Option Addr) (n c : Nat) (zs : List Int) (k' : Nat) (tmps : Array Value) (O : Obj) (x0 x1 x2 : Int) (y0 y1 y2 : Bool)
    (ht : tmps[2]? = some (.pointer (some ⟨w.heap.size, 0, none⟩))) (hat : At6 w2 w.heap.size 0 z6) (hR : Rdr w2 r a n c zs k') (hT : Turn (fun j => j = r) w w2) (hr : r ≠ w.heap.size) (hc : Hid (n ≠ 0 → ∀ b off, a = some ⟨b, off, none⟩ → b < w.heap.size)) (h0 : wfi x0) (h1 : wfi x1) (h2 : wfi x2) :
    bodyPost Try.prog Try.f85 (DrPost w r a n c zs) Exit.ret ⟨tmps, []⟩ ((set6 w2 w.heap.size 0 (x0, x1, x2, y0, y1, y2)).alloc O) := by
  have q := set6_at hat (x0, x1, x2, y0, y1, y2)
  have hlt : w.heap.size < (set6 w2 w.heap.size 0 (x0, x1, x2, y0, y1, y2)).heap.size := World.block_lt_of_cell? _ _ q.1
  have q' := q.below ((Below.refl _ _).alloc (Nat.le_refl _) O)
  have hT' : Turn (fun j => j = r) w (set6 w2 w.heap.size 0 (x0, x1, x2, y0, y1, y2)) := turn_new (turn_new (turn_new (turn_new (turn_new (turn_new hT (Nat.le_refl _) _ _) (Nat.le_refl _) _ _) (Nat.le_refl _) _ _) (Nat.le_refl _) _ _) (Nat.le_refl _) _ _) (Nat.le_refl _) _ _
  have hR' : Rdr (set6 w2 w.heap.size 0 (x0, x1, x2, y0, y1, y2)) r a n c zs k' := by
    have hc' : n ≠ 0 → ∀ b' off, a = some ⟨b', off, none⟩ → b' ≠ w.heap.size := fun h b off e => by have := hc.out h b off e; omega
    exact rdr_set (rdr_set (rdr_set (rdr_set (rdr_set (rdr_set hR hr hc' _ _) hr hc' _ _) hr hc' _ _) hr hc' _ _) hr hc' _ _) hr hc' _ _
  have hT2 := turn_more hT' O
  have hR2 := rdr_alloc hR' O
  generalize (set6 w2 w.heap.size 0 (x0, x1, x2, y0, y1, y2)).alloc O = W at *
  refine bodyPost_ret_by (v := .agg #[.int .i64 x0, .int .i64 x1, .int .i64 x2, .bool y0, .bool y1, .bool y2]) ?_ rfl ⟨x0, x1, x2, y0, y1, y2, k', rfl, ⟨h0, h1, h2⟩, ?_, ?_⟩
  · obtain ⟨p1, p2, p3, p4, p5, p6⟩ := q'
    simp only [Nat.zero_add] at p2 p3 p4 p5 p6
    simp [results, Try.results85, go_sem, ht, p1, p2, p3, p4, p5, p6]
  · exact hR2
  · exact hT2

theorem region_end0 (w w2 : World) (r : Nat) (a : Option Addr) (n c : Nat) (zs : List Int) (k' : Nat) (tmps : Array Value) (x0 x1 x2 : Int) (y0 y1 y2 : Bool)
    (ht : tmps[2]? = some (.pointer (some ⟨w.heap.size, 0, none⟩))) (hat : At6 w2 w.heap.size 0 z6) (hR : Rdr w2 r a n c zs k') (hT : Turn (fun j => j = r) w w2) (hr : r ≠ w.heap.size) (hc : Hid (n ≠ 0 → ∀ b off, a = some ⟨b, off, none⟩ → b < w.heap.size)) (h0 : wfi x0) (h1 : wfi x1) (h2 : wfi x2) :
    bodyPost Try.prog Try.f85 (DrPost w r a n c zs) Exit.ret ⟨tmps, []⟩ (set6 w2 w.heap.size 0 (x0, x1, x2, y0, y1, y2)) := by
  have q := set6_at hat (x0, x1, x2, y0, y1, y2)
  have hlt : w.heap.size < (set6 w2 w.heap.size 0 (x0, x1, x2, y0, y1, y2)).heap.size := World.block_lt_of_cell? _ _ q.1
  have q' := q
  have hT' : Turn (fun j => j = r) w (set6 w2 w.heap.size 0 (x0, x1, x2, y0, y1, y2)) := turn_new (turn_new (turn_new (turn_new (turn_new (turn_new hT (Nat.le_refl _) _ _) (Nat.le_refl _) _ _) (Nat.le_refl _) _ _) (Nat.le_refl _) _ _) (Nat.le_refl _) _ _) (Nat.le_refl _) _ _
  have hR' : Rdr (set6 w2 w.heap.size 0 (x0, x1, x2, y0, y1, y2)) r a n c zs k' := by
    have hc' : n ≠ 0 → ∀ b' off, a = some ⟨b', off, none⟩ → b' ≠ w.heap.size := fun h b off e => by have := hc.out h b off e; omega
    exact rdr_set (rdr_set (rdr_set (rdr_set (rdr_set (rdr_set hR hr hc' _ _) hr hc' _ _) hr hc' _ _) hr hc' _ _) hr hc' _ _) hr hc' _ _
  have hT2 := hT'
  have hR2 := hR'
  generalize set6 w2 w.heap.size 0 (x0, x1, x2, y0, y1, y2) = W at *
  refine bodyPost_ret_by (v := .agg #[.int .i64 x0, .int .i64 x1, .int .i64 x2, .bool y0, .bool y1, .bool y2]) ?_ rfl ⟨x0, x1, x2, y0, y1, y2, k', rfl, ⟨h0, h1, h2⟩, ?_, ?_⟩
  · obtain ⟨p1, p2, p3, p4, p5, p6⟩ := q'
    simp only [Nat.zero_add] at p2 p3 p4 p5 p6
    simp [results, Try.results85, go_sem, ht, p1, p2, p3, p4, p5, p6]
  · exact hR2
  · exact hT2

theorem at6_set {W : World} {b o b' i : Nat} {g : Rg} {v : Value} (h : At6 W b o g) (hb : b ≠ b') : At6 (W.setCell ⟨b', i, none⟩ v) b o g := by
  unfold At6
  rw [cell_other (Or.inl hb), cell_other (Or.inl hb), cell_other (Or.inl hb), cell_other (Or.inl hb), cell_other (Or.inl hb), cell_other (Or.inl hb)]
  exact h

set_option maxHeartbeats 4000000 in
theorem l2Region_any (r : Nat) (a : Option Addr) (n c : Nat) (zs : List Int) (k : Nat) (w : World) (h : Rdr w r a n c zs k) (hcode : n ≠ 0 → ∀ b off, a = some ⟨b, off, none⟩ → b < w.heap.size) :
    Calls Try.prog 85 #[.pointer (some ⟨r, 0, none⟩)] w (DrPost w r a n c zs) := by
  have hrw := h.blk.lt
  have T0 : Turn (fun j => j = r) w (w.alloc (.cells #[.int .i64 0, .int .i64 0, .int .i64 0, .bool false, .bool false, .bool false] 30)) := turn_alloc w _
  have kr0 := Blk.new w #[.int .i64 0, .int .i64 0, .int .i64 0, .bool false, .bool false, .bool false] 30
  have h0 := rdr_below h ((Below.refl w.heap.size w).alloc (Nat.le_refl _) (.cells #[.int .i64 0, .int .i64 0, .int .i64 0, .bool false, .bool false, .bool false] 30))
  obtain ⟨v1, E1, z0, z0'⟩ := draw_is h.bs k
  obtain ⟨v2, E2, z1, z1'⟩ := draw_is h.bs (k + 1)
  obtain ⟨v3, E3, z2, z2'⟩ := draw_is h.bs (k + 1 + 1)
  clear h
  go_enter Try.func85, Try.ntmps85
  go_wp2_with fail
  refine (next_is r a n c zs k v1 _ h0 E1).mono ?_
  rintro e w1 ⟨rfl, h1, t1⟩
  have kr1 := turn_blk t1 kr0 (by omega)
  have T1 := T0.trans t1
  clear t1 kr0 T0 h0
  go_wp2_with fail
  refine (next_is r a n c zs (k + 1) v2 _ h1 E2).mono ?_
  rintro e w2 ⟨rfl, h2, t2⟩
  have kr2 := turn_blk t2 kr1 (by omega)
  have T2 := T1.trans t2
  clear t2 kr1 T1 h1
  obtain ⟨L, hL⟩ : ∃ L : Int, L = 5 + v1 % 6 := ⟨_, rfl⟩
  have hL5 : 5 ≤ L := by omega
  have hL10 : L ≤ 10 := by omega
  go_wp2_with fail
  rw [← hL]
  have HL := hide hL
  clear hL
  refine (l2Power_any L (by omega) (by omega) _).mono ?_
  rintro e wx ⟨rfl, rfl⟩
  have hp := pow_lt L.toNat (by omega)
  have hp0 := pow_pos L.toNat
  generalize (2:Int)^L.toNat = P at *
  have ko := Blk.new w2 #[.int .i64 0, .int .i64 L, .int .i64 0, .bool (v2 % 2 == 1), .bool (v2 / 2 % 2 == 1), .bool (v2 / 4 % 3 == 0)] 30
  generalize (v2 % 2 == 1) = b1 at *
  generalize (v2 / 2 % 2 == 1) = b2 at *
  generalize (v2 / 4 % 3 == 0) = b3 at *
  obtain ⟨q1, q2, q3, q4, q5, q6, q7⟩ := kr2.six
  have hsz := kr2.lt
  have HC := hide hcode
  clear hcode
  by_cases h8 : L < 8
  · have hat : At6 w2 w.heap.size 0 z6 := ⟨q1, q2, q3, q4, q5, q6⟩
    have HAT := hide hat
    clear hat kr2 ko
    by_cases h240 : v1 < 240
    · go_wp2
      refine region_end w w2 r a n c zs (k + 1 + 1) _ _ _ _ _ _ _ _ rfl HAT.out h2 T2 (by omega) HC ?_ ?_ ?_
      all_goals first | exact wrap_wfi _ | (unfold wfi; omega)
    · by_cases j0 : v2 % 5 = 0
      · have g0 : (v2 % 5 == 0) = true := by simpa using j0
        clear j0
        go_wp2
        refine region_end w w2 r a n c zs (k + 1 + 1) _ _ _ _ _ _ _ _ rfl HAT.out h2 T2 (by omega) HC ?_ ?_ ?_
        all_goals first | exact wrap_wfi _ | (unfold wfi; omega)
      · have g0 : (v2 % 5 == 0) = false := by simpa using j0
        clear j0
        by_cases j1 : v2 % 5 = 1
        · have g1 : (v2 % 5 == 1) = true := by simpa using j1
          clear j1
          go_wp2
          refine region_end w w2 r a n c zs (k + 1 + 1) _ _ _ _ _ _ _ _ rfl HAT.out h2 T2 (by omega) HC ?_ ?_ ?_
          all_goals first | exact wrap_wfi _ | (unfold wfi; omega)
        · have g1 : (v2 % 5 == 1) = false := by simpa using j1
          clear j1
          by_cases j2 : v2 % 5 = 2
          · have g2 : (v2 % 5 == 2) = true := by simpa using j2
            clear j2
            go_wp2
            refine region_end w w2 r a n c zs (k + 1 + 1) _ _ _ _ _ _ _ _ rfl HAT.out h2 T2 (by omega) HC ?_ ?_ ?_
            all_goals first | exact wrap_wfi _ | (unfold wfi; omega)
          · have g2 : (v2 % 5 == 2) = false := by simpa using j2
            clear j2
            by_cases j3 : v2 % 5 = 3
            · have g3 : (v2 % 5 == 3) = true := by simpa using j3
              clear j3
              go_wp2
              refine region_end w w2 r a n c zs (k + 1 + 1) _ _ _ _ _ _ _ _ rfl HAT.out h2 T2 (by omega) HC ?_ ?_ ?_
              all_goals first | exact wrap_wfi _ | (unfold wfi; omega)
            · have g3 : (v2 % 5 == 3) = false := by simpa using j3
              clear j3
              go_wp2
              refine region_end w w2 r a n c zs (k + 1 + 1) _ _ _ _ _ _ _ _ rfl HAT.out h2 T2 (by omega) HC ?_ ?_ ?_
              all_goals first | exact wrap_wfi _ | (unfold wfi; omega)
  · clear q1 q2 q3 q4 q5 q6 q7
    have hB2 : w.heap.size < w2.heap.size := hsz
    go_wp2_with fail
    refine (next_is r a n c zs (k + 1 + 1) v3 _ (rdr_alloc h2 _) E3).mono ?_
    rintro e w3 ⟨rfl, h3, t3⟩
    have kr3 := turn_blk t3 (kr2.alloc _) (by omega)
    have T3 := (turn_more T2 _).trans t3
    generalize hX : wrap64 ((v1 / 8 % 4 * 32 + v2 / 16 % 4 * 128) / P * P) = X at *
    have hXw : wfi X := by rw [← hX]; exact wrap_wfi _
    obtain ⟨hX0, hX1⟩ := hXw
    have HX := hide hX
    clear hX
    have kn := turn_blk t3 (Blk.new w2 #[.int .i64 X, .int .i64 L, .int .i64 0, .bool b1, .bool b2, .bool b3] 30) (by omega)
    obtain ⟨q1, q2, q3, q4, q5, q6, q7⟩ := kr3.six
    have HAT := hide (show At6 w3 w.heap.size 0 z6 from ⟨q1, q2, q3, q4, q5, q6⟩)
    obtain ⟨p1, p2, p3, p4, p5, p6, p7⟩ := kn.six
    have HR3 := hide h3
    have HT3 := hide T3
    have HC2 := hide (show n ≠ 0 → ∀ b' off, a = some ⟨b', off, none⟩ → b' ≠ w2.heap.size from fun h b off e => by have := HC.out h b off e; omega)
    clear h3 T3 t3 kr3 kr2 ko kn h2 T2
    by_cases h240 : v1 < 240
    · go_wp2
      refine region_end0 w _ r a n c zs (k + 1 + 1 + 1) _ _ _ _ _ _ _ rfl ?_ ?_ ?_ (by omega) HC ?_ ?_ ?_
      · first | exact HAT.out | exact at6_set HAT.out (by omega) | exact at6_set (at6_set HAT.out (by omega)) (by omega) | exact at6_set (at6_set (at6_set HAT.out (by omega)) (by omega)) (by omega)
      · first | exact HR3.out | exact rdr_set HR3.out (by omega) HC2.out _ _ | exact rdr_set (rdr_set HR3.out (by omega) HC2.out _ _) (by omega) HC2.out _ _ | exact rdr_set (rdr_set (rdr_set HR3.out (by omega) HC2.out _ _) (by omega) HC2.out _ _) (by omega) HC2.out _ _
      · first | exact HT3.out | exact turn_new HT3.out (by omega) _ _ | exact turn_new (turn_new HT3.out (by omega) _ _) (by omega) _ _ | exact turn_new (turn_new (turn_new HT3.out (by omega) _ _) (by omega) _ _) (by omega) _ _
      all_goals first | exact wrap_wfi _ | (unfold wfi; omega)
    · by_cases j0 : v2 % 5 = 0
      · have g0 : (v2 % 5 == 0) = true := by simpa using j0
        clear j0
        go_wp2
        refine region_end0 w _ r a n c zs (k + 1 + 1 + 1) _ _ _ _ _ _ _ rfl ?_ ?_ ?_ (by omega) HC ?_ ?_ ?_
        · first | exact HAT.out | exact at6_set HAT.out (by omega) | exact at6_set (at6_set HAT.out (by omega)) (by omega) | exact at6_set (at6_set (at6_set HAT.out (by omega)) (by omega)) (by omega)
        · first | exact HR3.out | exact rdr_set HR3.out (by omega) HC2.out _ _ | exact rdr_set (rdr_set HR3.out (by omega) HC2.out _ _) (by omega) HC2.out _ _ | exact rdr_set (rdr_set (rdr_set HR3.out (by omega) HC2.out _ _) (by omega) HC2.out _ _) (by omega) HC2.out _ _
        · first | exact HT3.out | exact turn_new HT3.out (by omega) _ _ | exact turn_new (turn_new HT3.out (by omega) _ _) (by omega) _ _ | exact turn_new (turn_new (turn_new HT3.out (by omega) _ _) (by omega) _ _) (by omega) _ _
        all_goals first | exact wrap_wfi _ | (unfold wfi; omega)
      · have g0 : (v2 % 5 == 0) = false := by simpa using j0
        clear j0
        by_cases j1 : v2 % 5 = 1
        · have g1 : (v2 % 5 == 1) = true := by simpa using j1
          clear j1
          go_wp2
          refine region_end0 w _ r a n c zs (k + 1 + 1 + 1) _ _ _ _ _ _ _ rfl ?_ ?_ ?_ (by omega) HC ?_ ?_ ?_
          · first | exact HAT.out | exact at6_set HAT.out (by omega) | exact at6_set (at6_set HAT.out (by omega)) (by omega) | exact at6_set (at6_set (at6_set HAT.out (by omega)) (by omega)) (by omega)
          · first | exact HR3.out | exact rdr_set HR3.out (by omega) HC2.out _ _ | exact rdr_set (rdr_set HR3.out (by omega) HC2.out _ _) (by omega) HC2.out _ _ | exact rdr_set (rdr_set (rdr_set HR3.out (by omega) HC2.out _ _) (by omega) HC2.out _ _) (by omega) HC2.out _ _
          · first | exact HT3.out | exact turn_new HT3.out (by omega) _ _ | exact turn_new (turn_new HT3.out (by omega) _ _) (by omega) _ _ | exact turn_new (turn_new (turn_new HT3.out (by omega) _ _) (by omega) _ _) (by omega) _ _
          all_goals first | exact wrap_wfi _ | (unfold wfi; omega)
        · have g1 : (v2 % 5 == 1) = false := by simpa using j1
          clear j1
          by_cases j2 : v2 % 5 = 2
          · have g2 : (v2 % 5 == 2) = true := by simpa using j2
            clear j2
            go_wp2
            refine region_end0 w _ r a n c zs (k + 1 + 1 + 1) _ _ _ _ _ _ _ rfl ?_ ?_ ?_ (by omega) HC ?_ ?_ ?_
            · first | exact HAT.out | exact at6_set HAT.out (by omega) | exact at6_set (at6_set HAT.out (by omega)) (by omega) | exact at6_set (at6_set (at6_set HAT.out (by omega)) (by omega)) (by omega)
            · first | exact HR3.out | exact rdr_set HR3.out (by omega) HC2.out _ _ | exact rdr_set (rdr_set HR3.out (by omega) HC2.out _ _) (by omega) HC2.out _ _ | exact rdr_set (rdr_set (rdr_set HR3.out (by omega) HC2.out _ _) (by omega) HC2.out _ _) (by omega) HC2.out _ _
            · first | exact HT3.out | exact turn_new HT3.out (by omega) _ _ | exact turn_new (turn_new HT3.out (by omega) _ _) (by omega) _ _ | exact turn_new (turn_new (turn_new HT3.out (by omega) _ _) (by omega) _ _) (by omega) _ _
            all_goals first | exact wrap_wfi _ | (unfold wfi; omega)
          · have g2 : (v2 % 5 == 2) = false := by simpa using j2
            clear j2
            by_cases j3 : v2 % 5 = 3
            · have g3 : (v2 % 5 == 3) = true := by simpa using j3
              clear j3
              go_wp2
              refine region_end0 w _ r a n c zs (k + 1 + 1 + 1) _ _ _ _ _ _ _ rfl ?_ ?_ ?_ (by omega) HC ?_ ?_ ?_
              · first | exact HAT.out | exact at6_set HAT.out (by omega) | exact at6_set (at6_set HAT.out (by omega)) (by omega) | exact at6_set (at6_set (at6_set HAT.out (by omega)) (by omega)) (by omega)
              · first | exact HR3.out | exact rdr_set HR3.out (by omega) HC2.out _ _ | exact rdr_set (rdr_set HR3.out (by omega) HC2.out _ _) (by omega) HC2.out _ _ | exact rdr_set (rdr_set (rdr_set HR3.out (by omega) HC2.out _ _) (by omega) HC2.out _ _) (by omega) HC2.out _ _
              · first | exact HT3.out | exact turn_new HT3.out (by omega) _ _ | exact turn_new (turn_new HT3.out (by omega) _ _) (by omega) _ _ | exact turn_new (turn_new (turn_new HT3.out (by omega) _ _) (by omega) _ _) (by omega) _ _
              all_goals first | exact wrap_wfi _ | (unfold wfi; omega)
            · have g3 : (v2 % 5 == 3) = false := by simpa using j3
              clear j3
              go_wp2
              refine region_end0 w _ r a n c zs (k + 1 + 1 + 1) _ _ _ _ _ _ _ rfl ?_ ?_ ?_ (by omega) HC ?_ ?_ ?_
              · first | exact HAT.out | exact at6_set HAT.out (by omega) | exact at6_set (at6_set HAT.out (by omega)) (by omega) | exact at6_set (at6_set (at6_set HAT.out (by omega)) (by omega)) (by omega)
              · first | exact HR3.out | exact rdr_set HR3.out (by omega) HC2.out _ _ | exact rdr_set (rdr_set HR3.out (by omega) HC2.out _ _) (by omega) HC2.out _ _ | exact rdr_set (rdr_set (rdr_set HR3.out (by omega) HC2.out _ _) (by omega) HC2.out _ _) (by omega) HC2.out _ _
              · first | exact HT3.out | exact turn_new HT3.out (by omega) _ _ | exact turn_new (turn_new HT3.out (by omega) _ _) (by omega) _ _ | exact turn_new (turn_new (turn_new HT3.out (by omega) _ _) (by omega) _ _) (by omega) _ _
              all_goals first | exact wrap_wfi _ | (unfold wfi; omega)
end Go.Proofs.Ythnelonbpbhhbab
