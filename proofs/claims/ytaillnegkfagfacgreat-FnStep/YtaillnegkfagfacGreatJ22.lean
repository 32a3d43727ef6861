import Derived.Test.YtaillnegkfagfacGreatJ21
import Derived.Test.YtaillnegkfagfacGreatJ10
import Derived.Test.YtaillnegkfagfacGreatJ06
import Derived.Deep.RegionLaw
import Derived.Deep.AppendLies
import Derived.Test.YtaillnegkfagfacGreatJ03
namespace Go.Proofs.YtaillnegkfagfacGreat
open Go.RowKit
set_option linter.unusedVariables false

theorem turn_in {S : Nat → Prop} {w W W' : World} (h : Turn S w W) (t : Turn S W W') : Turn S w W' := h.trans t
theorem rdr_turn {S : Nat → Prop} {W W' : World} {r : Nat} {a : Option Addr} {n c : Nat} {zs : List Int} {k : Nat} (h : Rdr W r a n c zs k) (t : Turn S W W') (hr : ¬ S r) (ha : n ≠ 0 → ∀ j, S j → ∀ b off, a = some ⟨b, off, none⟩ → b ≠ j) : Rdr W' r a n c zs k :=
  ⟨turn_blk t h.blk hr, turn_bs' t h.bs ha, h.small, h.far⟩

theorem turn_new {S : Nat → Prop} {w W : World} (h : Turn S w W) {b : Nat} (hb : w.heap.size ≤ b) (i : Nat) (v : Value) : Turn S w (W.setCell ⟨b, i, none⟩ v) :=
  ⟨h.os, h.tape, h.output, by rw [size_setCell]; exact h.size, fun k hk hn => by rw [heap_setCell_other _ _ _ _ (by dsimp only; omega)]; exact h.block k hk hn⟩
theorem turn_more {S : Nat → Prop} {w W : World} (h : Turn S w W) (o : Obj) : Turn S w (W.alloc o) := h.trans (turn_alloc W o)
theorem rdr_set {W : World} {r : Nat} {a : Option Addr} {n c : Nat} {zs : List Int} {k : Nat} (h : Rdr W r a n c zs k) {b : Nat} (hb : r ≠ b) (ha : n ≠ 0 → ∀ b' off, a = some ⟨b', off, none⟩ → b' ≠ b) (i : Nat) (v : Value) : Rdr (W.setCell ⟨b, i, none⟩ v) r a n c zs k :=
  rdr_turn h (turn_set W b i v) hb (fun h0 j hj b' off e => by subst hj; exact ha h0 b' off e)
theorem rdr_alloc {W : World} {r : Nat} {a : Option Addr} {n c : Nat} {zs : List Int} {k : Nat} (h : Rdr W r a n c zs k) (o : Obj) : Rdr (W.alloc o) r a n c zs k := rdr_below h ((Below.refl _ _).alloc (Nat.le_refl _) o)

def DrPost (w : World) (r : Nat) (a : Option Addr) (n c : Nat) (zs : List Int) (e : Ending) (w' : World) : Prop :=
  ∃ (g1 g2 g3 : Int) (g4 g5 g6 : Bool) (k' : Nat), e = .returned (.agg #[.int .i64 g1, .int .i64 g2, .int .i64 g3, .bool g4, .bool g5, .bool g6]) ∧ (wfi g1 ∧ wfi g2 ∧ wfi g3) ∧ Rdr w' r a n c zs k' ∧ Turn (fun j => j = r) w w'

theorem region_end (w w2 : World) (r : Nat) (a : Option Addr) (n c : Nat) (zs : List Int) (k' : Nat) (tmps : Array Value) (O : Obj) (x0 x1 x2 : Int) (y0 y1 y2 : Bool)
    (ht : tmps[2]? = some (.pointer (some ⟨w.heap.size, 0, none⟩))) (hat : At6 w2 w.heap.size 0 z6) (hR : Rdr w2 r a n c zs k') (hT : Turn (fun j => j = r) w w2) (hr : r ≠ w.heap.size) (hc : Hid (n ≠ 0 → ∀ b off, a = some ⟨b, off, none⟩ → b < w.heap.size)) (h0 : wfi x0) (h1 : wfi x1) (h2 : wfi x2) :
    bodyPost Tryz.prog Tryz.f14 (DrPost w r a n c zs) Exit.ret ⟨tmps, []⟩ ((set6 w2 w.heap.size 0 (x0, x1, x2, y0, y1, y2)).alloc O) := by
  have q := set6_at hat (x0, x1, x2, y0, y1, y2)
  have hlt : w.heap.size < (set6 w2 w.heap.size 0 (x0, x1, x2, y0, y1, y2)).heap.size := World.block_lt_of_cell? _ _ q.1
  have q' := q.below ((Below.refl _ _).alloc (Nat.le_refl _) O)
  have hT' : Turn (fun j => j = r) w (set6 w2 w.heap.size 0 (x0, x1, x2, y0, y1, y2)) := turn_new (turn_new (turn_new (turn_new (turn_new (turn_new hT (Nat.le_refl _) _ _) (Nat.le_refl _) _ _) (Nat.le_refl _) _ _) (Nat.le_refl _) _ _) (Nat.le_refl _) _ _) (Nat.le_refl _) _ _
  have hR' : Rdr (set6 w2 w.heap.size 0 (x0, x1, x2, y0, y1, y2)) r a n c zs k' := by
    have hc' : n ≠ 0 → ∀ b' off, a = some ⟨b', off, none⟩ → b' ≠ w.heap.size := fun h b off e => by have := hc.out h b off e; omega
    exact rdr_set (rdr_set (rdr_set (rdr_set (rdr_set (rdr_set hR hr hc' _ _) hr hc' _ _) hr hc' _ _) hr hc' _ _) hr hc' _ _) hr hc' _ _
  have hT2 := turn_more hT' O
  have hR2 := rdr_alloc hR' O
  generalize (set6 w2 w.heap.size 0 (x0, x1, x2, y0, y1, y2)).alloc O = W at *
  refine bodyPost_ret_by (v := .agg #[.int .i64 x0, .int .i64 x1, .int .i64 x2, .bool y0, .bool y1, .bool y2]) ?_ rfl ⟨x0, x1, x2, y0, y1, y2, k', rfl, ⟨h0, h1, h2⟩, ?_, ?_⟩
  · obtain ⟨p1, p2, p3, p4, p5, p6⟩ := q'
    simp only [Nat.zero_add] at p2 p3 p4 p5 p6
    simp [results, Tryz.results14, go_sem, ht, p1, p2, p3, p4, p5, p6]
  · exact hR2
  · exact hT2

theorem region_end0 (w w2 : World) (r : Nat) (a : Option Addr) (n c : Nat) (zs : List Int) (k' : Nat) (tmps : Array Value) (x0 x1 x2 : Int) (y0 y1 y2 : Bool)
    (ht : tmps[2]? = some (.pointer (some ⟨w.heap.size, 0, none⟩))) (hat : At6 w2 w.heap.size 0 z6) (hR : Rdr w2 r a n c zs k') (hT : Turn (fun j => j = r) w w2) (hr : r ≠ w.heap.size) (hc : Hid (n ≠ 0 → ∀ b off, a = some ⟨b, off, none⟩ → b < w.heap.size)) (h0 : wfi x0) (h1 : wfi x1) (h2 : wfi x2) :
    bodyPost Tryz.prog Tryz.f14 (DrPost w r a n c zs) Exit.ret ⟨tmps, []⟩ (set6 w2 w.heap.size 0 (x0, x1, x2, y0, y1, y2)) := by
  have q := set6_at hat (x0, x1, x2, y0, y1, y2)
  have hlt : w.heap.size < (set6 w2 w.heap.size 0 (x0, x1, x2, y0, y1, y2)).heap.size := World.block_lt_of_cell? _ _ q.1
  have q' := q
  have hT' : Turn (fun j => j = r) w (set6 w2 w.heap.size 0 (x0, x1, x2, y0, y1, y2)) := turn_new (turn_new (turn_new (turn_new (turn_new (turn_new hT (Nat.le_refl _) _ _) (Nat.le_refl _) _ _) (Nat.le_refl _) _ _) (Nat.le_refl _) _ _) (Nat.le_refl _) _ _) (Nat.le_refl _) _ _
  have hR' : Rdr (set6 w2 w.heap.size 0 (x0, x1, x2, y0, y1, y2)) r a n c zs k' := by
    have hc' : n ≠ 0 → ∀ b' off, a = some ⟨b', off, none⟩ → b' ≠ w.heap.size := fun h b off e => by have := hc.out h b off e; omega
    exact rdr_set (rdr_set (rdr_set (rdr_set (rdr_set (rdr_set hR hr hc' _ _) hr hc' _ _) hr hc' _ _) hr hc' _ _) hr hc' _ _) hr hc' _ _
  have hT2 := hT'
  have hR2 := hR'
  generalize set6 w2 w.heap.size 0 (x0, x1, x2, y0, y1, y2) = W at *
  refine bodyPost_ret_by (v := .agg #[.int .i64 x0, .int .i64 x1, .int .i64 x2, .bool y0, .bool y1, .bool y2]) ?_ rfl ⟨x0, x1, x2, y0, y1, y2, k', rfl, ⟨h0, h1, h2⟩, ?_, ?_⟩
  · obtain ⟨p1, p2, p3, p4, p5, p6⟩ := q'
    simp only [Nat.zero_add] at p2 p3 p4 p5 p6
    simp [results, Tryz.results14, go_sem, ht, p1, p2, p3, p4, p5, p6]
  · exact hR2
  · exact hT2

theorem at6_set {W : World} {b o b' i : Nat} {g : Rg} {v : Value} (h : At6 W b o g) (hb : b ≠ b') : At6 (W.setCell ⟨b', i, none⟩ v) b o g := by
  unfold At6
  rw [cell_other (Or.inl hb), cell_other (Or.inl hb), cell_other (Or.inl hb), cell_other (Or.inl hb), cell_other (Or.inl hb), cell_other (Or.inl hb)]
  exact h

set_option maxHeartbeats 4000000 in
theorem l2Region_any (r : Nat) (a : Option Addr) (n c : Nat) (zs : List Int) (k : Nat) (w : World) (h : Rdr w r a n c zs k) (hcode : n ≠ 0 → ∀ b off, a = some ⟨b, off, none⟩ → b < w.heap.size) :
    Calls Tryz.prog 14 #[.pointer (some ⟨r, 0, none⟩)] w (DrPost w r a n c zs) := by
  have hrw := h.blk.lt
  have T0 : Turn (fun j => j = r) w (w.alloc (.cells #[.int .i64 0, .int .i64 0, .int .i64 0, .bool false, .bool false, .bool false] 43)) := turn_alloc w _
  have kr0 := Blk.new w #[.int .i64 0, .int .i64 0, .int .i64 0, .bool false, .bool false, .bool false] 43
  have h0 := rdr_below h ((Below.refl w.heap.size w).alloc (Nat.le_refl _) (.cells #[.int .i64 0, .int .i64 0, .int .i64 0, .bool false, .bool false, .bool false] 43))
  obtain ⟨v1, E1, z0, z0'⟩ := draw_is h.bs k
  obtain ⟨v2, E2, z1, z1'⟩ := draw_is h.bs (k + 1)
  obtain ⟨v3, E3, z2, z2'⟩ := draw_is h.bs (k + 1 + 1)
  clear h
  go_enter Tryz.func14, Tryz.ntmps14
  go_wp2_with fail
  refine (next_is r a n c zs k v1 _ h0 E1).mono ?_
  rintro e w1 ⟨rfl, h1, t1⟩
  have kr1 := turn_blk t1 kr0 (by omega)
  have T1 := T0.trans t1
  clear t1 kr0 T0 h0
  go_wp2_with fail
  refine (next_is r a n c zs (k + 1) v2 _ h1 E2).mono ?_
  rintro e w2 ⟨rfl, h2, t2⟩
  have kr2 := turn_blk t2 kr1 (by omega)
  have T2 := T1.trans t2
  clear t2 kr1 T1 h1
  obtain ⟨L, hL⟩ : ∃ L : Int, L = 5 + v1 % 6 := ⟨_, rfl⟩
  have hL5 : 5 ≤ L := by omega
  have hL10 : L ≤ 10 := by omega
  go_wp2_with fail
  rw [← hL]
  have HL := hide hL
  clear hL
  refine (l2Power_any L (by omega) (by omega) _).mono ?_
  rintro e wx ⟨rfl, rfl⟩
  have hp := pow_lt L.toNat (by omega)
  have hp0 := pow_pos L.toNat
  generalize (2:Int)^L.toNat = P at *
  have ko := Blk.new w2 #[.int .i64 0, .int .i64 L, .int .i64 0, .bool (v2 % 2 == 1), .bool (v2 / 2 % 2 == 1), .bool (v2 / 4 % 3 == 0)] 43
  generalize (v2 % 2 == 1) = b1 at *
  generalize (v2 / 2 % 2 == 1) = b2 at *
  generalize (v2 / 4 % 3 == 0) = b3 at *
  obtain ⟨q1, q2, q3, q4, q5, q6, q7⟩ := kr2.six
  have hsz := kr2.lt
  have HC := hide hcode
  clear hcode
  by_cases h8 : L < 8
  · have hat : At6 w2 w.heap.size 0 z6 := ⟨q1, q2, q3, q4, q5, q6⟩
    have HAT := hide hat
    clear hat kr2 ko
    by_cases h240 : v1 < 240
    · go_wp2
      refine region_end w w2 r a n c zs (k + 1 + 1) _ _ _ _ _ _ _ _ rfl HAT.out h2 T2 (by omega) HC ?_ ?_ ?_
      all_goals first | exact wrap_wfi _ | (unfold wfi; omega)
    · by_cases j0 : v2 % 5 = 0
      · have g0 : (v2 % 5 == 0) = true := by simpa using j0
        clear j0
        go_wp2
        refine region_end w w2 r a n c zs (k + 1 + 1) _ _ _ _ _ _ _ _ rfl HAT.out h2 T2 (by omega) HC ?_ ?_ ?_
        all_goals first | exact wrap_wfi _ | (unfold wfi; omega)
      · have g0 : (v2 % 5 == 0) = false := by simpa using j0
        clear j0
        by_cases j1 : v2 % 5 = 1
        · have g1 : (v2 % 5 == 1) = true := by simpa using j1
          clear j1
          go_wp2
          refine region_end w w2 r a n c zs (k + 1 + 1) _ _ _ _ _ _ _ _ rfl HAT.out h2 T2 (by omega) HC ?_ ?_ ?_
          all_goals first | exact wrap_wfi _ | (unfold wfi; omega)
        · have g1 : (v2 % 5 == 1) = false := by simpa using j1
          clear j1
          by_cases j2 : v2 % 5 = 2
          · have g2 : (v2 % 5 == 2) = true := by simpa using j2
            clear j2
            go_wp2
            refine region_end w w2 r a n c zs (k + 1 + 1) _ _ _ _ _ _ _ _ rfl HAT.out h2 T2 (by omega) HC ?_ ?_ ?_
            all_goals first | exact wrap_wfi _ | (unfold wfi; omega)
          · have g2 : (v2 % 5 == 2) = false := by simpa using j2
            clear j2
            by_cases j3 : v2 % 5 = 3
            · have g3 : (v2 % 5 == 3) = true := by simpa using j3
              clear j3
              go_wp2
              refine region_end w w2 r a n c zs (k + 1 + 1) _ _ _ _ _ _ _ _ rfl HAT.out h2 T2 (by omega) HC ?_ ?_ ?_
              all_goals first | exact wrap_wfi _ | (unfold wfi; omega)
            · have g3 : (v2 % 5 == 3) = false := by simpa using j3
              clear j3
              go_wp2
              refine region_end w w2 r a n c zs (k + 1 + 1) _ _ _ _ _ _ _ _ rfl HAT.out h2 T2 (by omega) HC ?_ ?_ ?_
              all_goals first | exact wrap_wfi _ | (unfold wfi; omega)
  · clear q1 q2 q3 q4 q5 q6 q7
    have hB2 : w.heap.size < w2.heap.size := hsz
    go_wp2_with fail
    refine (next_is r a n c zs (k + 1 + 1) v3 _ (rdr_alloc h2 _) E3).mono ?_
    rintro e w3 ⟨rfl, h3, t3⟩
    have kr3 := turn_blk t3 (kr2.alloc _) (by omega)
    have T3 := (turn_more T2 _).trans t3
    generalize hX : wrap64 ((v1 / 8 % 4 * 32 + v2 / 16 % 4 * 128) / P * P) = X at *
    have hXw : wfi X := by rw [← hX]; exact wrap_wfi _
    obtain ⟨hX0, hX1⟩ := hXw
    have HX := hide hX
    clear hX
    have kn := turn_blk t3 (Blk.new w2 #[.int .i64 X, .int .i64 L, .int .i64 0, .bool b1, .bool b2, .bool b3] 43) (by omega)
    obtain ⟨q1, q2, q3, q4, q5, q6, q7⟩ := kr3.six
    have HAT := hide (show At6 w3 w.heap.size 0 z6 from ⟨q1, q2, q3, q4, q5, q6⟩)
    obtain ⟨p1, p2, p3, p4, p5, p6, p7⟩ := kn.six
    have HR3 := hide h3
    have HT3 := hide T3
    have HC2 := hide (show n ≠ 0 → ∀ b' off, a = some ⟨b', off, none⟩ → b' ≠ w2.heap.size from fun h b off e => by have := HC.out h b off e; omega)
    clear h3 T3 t3 kr3 kr2 ko kn h2 T2
    by_cases h240 : v1 < 240
    · go_wp2
      refine region_end0 w _ r a n c zs (k + 1 + 1 + 1) _ _ _ _ _ _ _ rfl ?_ ?_ ?_ (by omega) HC ?_ ?_ ?_
      · first | exact HAT.out | exact at6_set HAT.out (by omega) | exact at6_set (at6_set HAT.out (by omega)) (by omega) | exact at6_set (at6_set (at6_set HAT.out (by omega)) (by omega)) (by omega)
      · first | exact HR3.out | exact rdr_set HR3.out (by omega) HC2.out _ _ | exact rdr_set (rdr_set HR3.out (by omega) HC2.out _ _) (by omega) HC2.out _ _ | exact rdr_set (rdr_set (rdr_set HR3.out (by omega) HC2.out _ _) (by omega) HC2.out _ _) (by omega) HC2.out _ _
      · first | exact HT3.out | exact turn_new HT3.out (by omega) _ _ | exact turn_new (turn_new HT3.out (by omega) _ _) (by omega) _ _ | exact turn_new (turn_new (turn_new HT3.out (by omega) _ _) (by omega) _ _) (by omega) _ _
      all_goals first | exact wrap_wfi _ | (unfold wfi; omega)
    · by_cases j0 : v2 % 5 = 0
      · have g0 : (v2 % 5 == 0) = true := by simpa using j0
        clear j0
        go_wp2
        refine region_end0 w _ r a n c zs (k + 1 + 1 + 1) _ _ _ _ _ _ _ rfl ?_ ?_ ?_ (by omega) HC ?_ ?_ ?_
        · first | exact HAT.out | exact at6_set HAT.out (by omega) | exact at6_set (at6_set HAT.out (by omega)) (by omega) | exact at6_set (at6_set (at6_set HAT.out (by omega)) (by omega)) (by omega)
        · first | exact HR3.out | exact rdr_set HR3.out (by omega) HC2.out _ _ | exact rdr_set (rdr_set HR3.out (by omega) HC2.out _ _) (by omega) HC2.out _ _ | exact rdr_set (rdr_set (rdr_set HR3.out (by omega) HC2.out _ _) (by omega) HC2.out _ _) (by omega) HC2.out _ _
        · first | exact HT3.out | exact turn_new HT3.out (by omega) _ _ | exact turn_new (turn_new HT3.out (by omega) _ _) (by omega) _ _ | exact turn_new (turn_new (turn_new HT3.out (by omega) _ _) (by omega) _ _) (by omega) _ _
        all_goals first | exact wrap_wfi _ | (unfold wfi; omega)
      · have g0 : (v2 % 5 == 0) = false := by simpa using j0
        clear j0
        by_cases j1 : v2 % 5 = 1
        · have g1 : (v2 % 5 == 1) = true := by simpa using j1
          clear j1
          go_wp2
          refine region_end0 w _ r a n c zs (k + 1 + 1 + 1) _ _ _ _ _ _ _ rfl ?_ ?_ ?_ (by omega) HC ?_ ?_ ?_
          · first | exact HAT.out | exact at6_set HAT.out (by omega) | exact at6_set (at6_set HAT.out (by omega)) (by omega) | exact at6_set (at6_set (at6_set HAT.out (by omega)) (by omega)) (by omega)
          · first | exact HR3.out | exact rdr_set HR3.out (by omega) HC2.out _ _ | exact rdr_set (rdr_set HR3.out (by omega) HC2.out _ _) (by omega) HC2.out _ _ | exact rdr_set (rdr_set (rdr_set HR3.out (by omega) HC2.out _ _) (by omega) HC2.out _ _) (by omega) HC2.out _ _
          · first | exact HT3.out | exact turn_new HT3.out (by omega) _ _ | exact turn_new (turn_new HT3.out (by omega) _ _) (by omega) _ _ | exact turn_new (turn_new (turn_new HT3.out (by omega) _ _) (by omega) _ _) (by omega) _ _
          all_goals first | exact wrap_wfi _ | (unfold wfi; omega)
        · have g1 : (v2 % 5 == 1) = false := by simpa using j1
          clear j1
          by_cases j2 : v2 % 5 = 2
          · have g2 : (v2 % 5 == 2) = true := by simpa using j2
            clear j2
            go_wp2
            refine region_end0 w _ r a n c zs (k + 1 + 1 + 1) _ _ _ _ _ _ _ rfl ?_ ?_ ?_ (by omega) HC ?_ ?_ ?_
            · first | exact HAT.out | exact at6_set HAT.out (by omega) | exact at6_set (at6_set HAT.out (by omega)) (by omega) | exact at6_set (at6_set (at6_set HAT.out (by omega)) (by omega)) (by omega)
            · first | exact HR3.out | exact rdr_set HR3.out (by omega) HC2.out _ _ | exact rdr_set (rdr_set HR3.out (by omega) HC2.out _ _) (by omega) HC2.out _ _ | exact rdr_set (rdr_set (rdr_set HR3.out (by omega) HC2.out _ _) (by omega) HC2.out _ _) (by omega) HC2.out _ _
            · first | exact HT3.out | exact turn_new HT3.out (by omega) _ _ | exact turn_new (turn_new HT3.out (by omega) _ _) (by omega) _ _ | exact turn_new (turn_new (turn_new HT3.out (by omega) _ _) (by omega) _ _) (by omega) _ _
            all_goals first | exact wrap_wfi _ | (unfold wfi; omega)
          · have g2 : (v2 % 5 == 2) = false := by simpa using j2
            clear j2
            by_cases j3 : v2 % 5 = 3
            · have g3 : (v2 % 5 == 3) = true := by simpa using j3
              clear j3
              go_wp2
              refine region_end0 w _ r a n c zs (k + 1 + 1 + 1) _ _ _ _ _ _ _ rfl ?_ ?_ ?_ (by omega) HC ?_ ?_ ?_
              · first | exact HAT.out | exact at6_set HAT.out (by omega) | exact at6_set (at6_set HAT.out (by omega)) (by omega) | exact at6_set (at6_set (at6_set HAT.out (by omega)) (by omega)) (by omega)
              · first | exact HR3.out | exact rdr_set HR3.out (by omega) HC2.out _ _ | exact rdr_set (rdr_set HR3.out (by omega) HC2.out _ _) (by omega) HC2.out _ _ | exact rdr_set (rdr_set (rdr_set HR3.out (by omega) HC2.out _ _) (by omega) HC2.out _ _) (by omega) HC2.out _ _
              · first | exact HT3.out | exact turn_new HT3.out (by omega) _ _ | exact turn_new (turn_new HT3.out (by omega) _ _) (by omega) _ _ | exact turn_new (turn_new (turn_new HT3.out (by omega) _ _) (by omega) _ _) (by omega) _ _
              all_goals first | exact wrap_wfi _ | (unfold wfi; omega)
            · have g3 : (v2 % 5 == 3) = false := by simpa using j3
              clear j3
              go_wp2
              refine region_end0 w _ r a n c zs (k + 1 + 1 + 1) _ _ _ _ _ _ _ rfl ?_ ?_ ?_ (by omega) HC ?_ ?_ ?_
              · first | exact HAT.out | exact at6_set HAT.out (by omega) | exact at6_set (at6_set HAT.out (by omega)) (by omega) | exact at6_set (at6_set (at6_set HAT.out (by omega)) (by omega)) (by omega)
              · first | exact HR3.out | exact rdr_set HR3.out (by omega) HC2.out _ _ | exact rdr_set (rdr_set HR3.out (by omega) HC2.out _ _) (by omega) HC2.out _ _ | exact rdr_set (rdr_set (rdr_set HR3.out (by omega) HC2.out _ _) (by omega) HC2.out _ _) (by omega) HC2.out _ _
              · first | exact HT3.out | exact turn_new HT3.out (by omega) _ _ | exact turn_new (turn_new HT3.out (by omega) _ _) (by omega) _ _ | exact turn_new (turn_new (turn_new HT3.out (by omega) _ _) (by omega) _ _) (by omega) _ _
              all_goals first | exact wrap_wfi _ | (unfold wfi; omega)
end Go.Proofs.YtaillnegkfagfacGreat

namespace Go.Proofs.YtaillnegkfagfacGreat
open Go.RowKit
set_option linter.unusedVariables false
set_option linter.unusedSimpArgs false
set_option maxRecDepth 100000

/-- THE STATE OF l1Mem: its result's block, the memory at G with three slices of its own, the reader. -/
structure Ms (w W : World) (r : Nat) (a : Option Addr) (n c : Nat) (zs : List Int) (kk G : Nat) (v1 v2 v3 : Value) (y1 y2 y3 : List Int) : Prop where
  res : Blk W w.heap.size #[.slice none 0 0, .slice none 0 0, .slice none 0 0] 27
  box : Blk W G #[v1, v2, v3] 27
  o1 : OB W (w.heap.size + 1) v1 y1
  o2 : OB W (w.heap.size + 1) v2 y2
  o3 : OB W (w.heap.size + 1) v3 y3
  a12 : ∀ k, v1.ownBlock = some k → v2.ownBlock ≠ some k
  a13 : ∀ k, v1.ownBlock = some k → v3.ownBlock ≠ some k
  a23 : ∀ k, v2.ownBlock = some k → v3.ownBlock ≠ some k
  g1 : v1.ownBlock ≠ some G
  g2 : v2.ownBlock ≠ some G
  g3 : v3.ownBlock ≠ some G
  rd : Rdr W r a n c zs kk
  turn : Turn (fun j => j = r) w W
  big : w.heap.size < G
  low : r < w.heap.size
  code : n ≠ 0 → ∀ b off, a = some ⟨b, off, none⟩ → b < w.heap.size

/-- another byte is read -/
theorem Ms.next {w W W' : World} {r : Nat} {a : Option Addr} {n c : Nat} {zs : List Int} {kk k2 G : Nat} {v1 v2 v3 : Value} {y1 y2 y3 : List Int} (h : Ms w W r a n c zs kk G v1 v2 v3 y1 y2 y3) (hr : Rdr W' r a n c zs k2) (t : Turn (fun j => j = r) W W') : Ms w W' r a n c zs k2 G v1 v2 v3 y1 y2 y3 := by
  have hb := h.big
  have hl := h.low
  have f : ∀ v y, OB W (w.heap.size + 1) v y → OB W' (w.heap.size + 1) v y := fun v y ho => turn_ob t ho (fun k hk e => by have := (ho.lt k hk).1; omega)
  exact ⟨turn_blk t h.res (by omega), turn_blk t h.box (by omega), f _ _ h.o1, f _ _ h.o2, f _ _ h.o3, h.a12, h.a13, h.a23, h.g1, h.g2, h.g3, hr, h.turn.trans t, hb, hl, h.code⟩
theorem Ms.more {w W : World} {r : Nat} {a : Option Addr} {n c : Nat} {zs : List Int} {kk G : Nat} {v1 v2 v3 : Value} {y1 y2 y3 : List Int} (h : Ms w W r a n c zs kk G v1 v2 v3 y1 y2 y3) (O : Obj) : Ms w (W.alloc O) r a n c zs kk G v1 v2 v3 y1 y2 y3 := by
  have b : Below W.heap.size W (W.alloc O) := (Below.refl _ _).alloc (Nat.le_refl _) O
  exact ⟨h.res.alloc O, h.box.alloc O, h.o1.below b, h.o2.below b, h.o3.below b, h.a12, h.a13, h.a23, h.g1, h.g2, h.g3, rdr_below h.rd b, h.turn.trans (turn_alloc W O), h.big, h.low, h.code⟩
theorem Ms.drew {w W : World} {r : Nat} {a : Option Addr} {n c : Nat} {zs : List Int} {kk G : Nat} {v1 v2 v3 : Value} {y1 y2 y3 : List Int} (h : Ms w W r a n c zs kk G v1 v2 v3 y1 y2 y3) : Rdr W.drew r a n c zs kk := ⟨h.rd.blk, h.rd.bs, h.rd.small, h.rd.far⟩

/-- one slice has grown by an append -/
theorem grown_rdr {W W' : World} {row : Option Nat} {r : Nat} {a : Option Addr} {n c : Nat} {zs : List Int} {kk : Nat} (hg : W.grownBy W' row) (h : Rdr W r a n c zs kk) (hr : row ≠ some r) (hc : n ≠ 0 → ∀ b off, a = some ⟨b, off, none⟩ → row ≠ some b) : Rdr W' r a n c zs kk :=
  ⟨grown_blk hg h.blk (fun e => hr e.symm), by
    have t : Turn (fun j => row = some j) W W' := ⟨hg.os, hg.tape, hg.output, hg.size, fun k hk hn => hg.block k hk (fun e => hn e.symm)⟩
    exact turn_bs' t h.bs (fun h0 k hk b off e eb => hc h0 b off e (by rw [eb]; exact hk)), h.small, h.far⟩
theorem Ms.flash {w W W' : World} {r : Nat} {a : Option Addr} {n c : Nat} {zs : List Int} {kk G : Nat} {v1 v2 v3 : Value} {y1 y2 y3 : List Int} (h : Ms w W r a n c zs kk G v1 v2 v3 y1 y2 y3) (z : Int) (hz : 0 ≤ z ∧ z ≤ 255) (g cap H : Nat)
    (ho : W'.ownsRow (w.heap.size + 1) 5 1 (.slice (some ⟨g, 0, none⟩) (y1.length + 1) cap) (y1.length + 1) (y1.map (Value.int .u8) ++ [Value.int .u8 z])) (hg : W.grownBy W' v1.ownBlock) (hat : v1.ownBlock = some g ∨ g = H) (hH : H = W.heap.size) :
    Ms w (W'.setCell ⟨G, 0, none⟩ (.slice (some ⟨g, 0, none⟩) (y1.length + 1) cap)) r a n c zs kk G (.slice (some ⟨g, 0, none⟩) (y1.length + 1) cap) v2 v3 (y1 ++ [z]) y2 y3 := by
  have hb := h.big
  have hl := h.low
  have eo : (Value.slice (some ⟨g, 0, none⟩) (y1.length + 1) cap).ownBlock = some g := rfl
  have e1 : ∀ k, v1.ownBlock = some k → w.heap.size + 1 ≤ k := fun k hk => (h.o1.lt k hk).1
  have f2 : v2.ownBlock = none ∨ v2.ownBlock ≠ v1.ownBlock := by
    cases e : v2.ownBlock with
    | none => exact Or.inl rfl
    | some k => right; intro e'; exact h.a12 k e'.symm e
  have f3 : v3.ownBlock = none ∨ v3.ownBlock ≠ v1.ownBlock := by
    cases e : v3.ownBlock with
    | none => exact Or.inl rfl
    | some k => right; intro e'; exact h.a13 k e'.symm e
  have hgG : g ≠ G := by
    rcases hat with e | e
    · intro e'; exact h.g1 (by rw [e, e'])
    · have := h.box.lt; omega
  have n2 : v2.ownBlock ≠ some g := by
    intro e
    rcases hat with e' | e'
    · exact h.a12 g e' e
    · have := (h.o2.lt g e).2; omega
  have n3 : v3.ownBlock ≠ some g := by
    intro e
    rcases hat with e' | e'
    · exact h.a13 g e' e
    · have := (h.o3.lt g e).2; omega
  have kr := grown_blk hg h.res (fun e => by have := e1 _ e.symm; omega)
  have kb := grown_blk hg h.box (fun e => h.g1 e.symm)
  have q2 := grown_ob hg h.o2 f2
  have q3 := grown_ob hg h.o3 f3
  have q1 : OB W' (w.heap.size + 1) (.slice (some ⟨g, 0, none⟩) (y1.length + 1) cap) (y1 ++ [z]) := ⟨by simpa using ho, fun y hy => by
    rcases List.mem_append.1 hy with hy | hy
    · exact h.o1.2 y hy
    · simp at hy; subst hy; exact hz⟩
  have rd := grown_rdr hg h.rd (fun e => by have := e1 _ e; omega) (fun h0 b off ea e => by have := e1 _ e; have := h.code h0 b off ea; omega)
  have t : Turn (fun j => j = r) w W' := by
    refine ⟨hg.os.trans h.turn.os, hg.tape.trans h.turn.tape, hg.output.trans h.turn.output, Nat.le_trans h.turn.size hg.size, fun k hk hn => ?_⟩
    rw [hg.block k (Nat.lt_of_lt_of_le hk h.turn.size) (fun e => by have := e1 _ e.symm; omega)]
    exact h.turn.block k hk hn
  refine ⟨kr.other _ _ (by dsimp only; omega), ?_, ob_far (g := G) q1 _ _ (by rw [eo]; intro e; injection e with e; exact hgG e), ob_far (g := G) q2 _ _ h.g2, ob_far (g := G) q3 _ _ h.g3, ?_, ?_, h.a23, ?_, h.g2, h.g3, ?_, ?_, hb, hl, h.code⟩
  · have := kb.set 0 (.slice (some ⟨g, 0, none⟩) (y1.length + 1) cap)
    simpa using this
  · intro k hk; rw [eo] at hk; injection hk with hk; subst hk; exact n2
  · intro k hk; rw [eo] at hk; injection hk with hk; subst hk; exact n3
  · rw [eo]; intro e; injection e with e; exact hgG e
  · exact ⟨rd.blk.other _ _ (by dsimp only; omega), turn_bs' (turn_set W' G 0 _) rd.bs (fun h0 k hk b off e => by subst hk; have := h.code h0 b off e; omega), rd.small, rd.far⟩
  · exact ⟨t.os, t.tape, t.output, by rw [size_setCell]; exact t.size, fun k hk hn => by rw [heap_setCell_other _ _ _ _ (by dsimp only; omega)]; exact t.block k hk hn⟩
theorem Ms.ram {w W W' : World} {r : Nat} {a : Option Addr} {n c : Nat} {zs : List Int} {kk G : Nat} {v1 v2 v3 : Value} {y1 y2 y3 : List Int} (h : Ms w W r a n c zs kk G v1 v2 v3 y1 y2 y3) (z : Int) (hz : 0 ≤ z ∧ z ≤ 255) (g cap H : Nat)
    (ho : W'.ownsRow (w.heap.size + 1) 5 1 (.slice (some ⟨g, 0, none⟩) (y2.length + 1) cap) (y2.length + 1) (y2.map (Value.int .u8) ++ [Value.int .u8 z])) (hg : W.grownBy W' v2.ownBlock) (hat : v2.ownBlock = some g ∨ g = H) (hH : H = W.heap.size) :
    Ms w (W'.setCell ⟨G, 1, none⟩ (.slice (some ⟨g, 0, none⟩) (y2.length + 1) cap)) r a n c zs kk G v1 (.slice (some ⟨g, 0, none⟩) (y2.length + 1) cap) v3 y1 (y2 ++ [z]) y3 := by
  have hb := h.big
  have hl := h.low
  have eo : (Value.slice (some ⟨g, 0, none⟩) (y2.length + 1) cap).ownBlock = some g := rfl
  have e2 : ∀ k, v2.ownBlock = some k → w.heap.size + 1 ≤ k := fun k hk => (h.o2.lt k hk).1
  have f1 : v1.ownBlock = none ∨ v1.ownBlock ≠ v2.ownBlock := by
    cases e : v1.ownBlock with
    | none => exact Or.inl rfl
    | some k => right; intro e'; exact h.a12 k e e'.symm
  have f3 : v3.ownBlock = none ∨ v3.ownBlock ≠ v2.ownBlock := by
    cases e : v3.ownBlock with
    | none => exact Or.inl rfl
    | some k => right; intro e'; exact h.a23 k e'.symm e
  have hgG : g ≠ G := by
    rcases hat with e | e
    · intro e'; exact h.g2 (by rw [e, e'])
    · have := h.box.lt; omega
  have n1 : v1.ownBlock ≠ some g := by
    intro e
    rcases hat with e' | e'
    · exact h.a12 g e e'
    · have := (h.o1.lt g e).2; omega
  have n3 : v3.ownBlock ≠ some g := by
    intro e
    rcases hat with e' | e'
    · exact h.a23 g e' e
    · have := (h.o3.lt g e).2; omega
  have kr := grown_blk hg h.res (fun e => by have := e2 _ e.symm; omega)
  have kb := grown_blk hg h.box (fun e => h.g2 e.symm)
  have q1 := grown_ob hg h.o1 f1
  have q3 := grown_ob hg h.o3 f3
  have q2 : OB W' (w.heap.size + 1) (.slice (some ⟨g, 0, none⟩) (y2.length + 1) cap) (y2 ++ [z]) := ⟨by simpa using ho, fun y hy => by
    rcases List.mem_append.1 hy with hy | hy
    · exact h.o2.2 y hy
    · simp at hy; subst hy; exact hz⟩
  have rd := grown_rdr hg h.rd (fun e => by have := e2 _ e; omega) (fun h0 b off ea e => by have := e2 _ e; have := h.code h0 b off ea; omega)
  have t : Turn (fun j => j = r) w W' := by
    refine ⟨hg.os.trans h.turn.os, hg.tape.trans h.turn.tape, hg.output.trans h.turn.output, Nat.le_trans h.turn.size hg.size, fun k hk hn => ?_⟩
    rw [hg.block k (Nat.lt_of_lt_of_le hk h.turn.size) (fun e => by have := e2 _ e.symm; omega)]
    exact h.turn.block k hk hn
  refine ⟨kr.other _ _ (by dsimp only; omega), ?_, ob_far (g := G) q1 _ _ h.g1, ob_far (g := G) q2 _ _ (by rw [eo]; intro e; injection e with e; exact hgG e), ob_far (g := G) q3 _ _ h.g3, ?_, h.a13, ?_, h.g1, ?_, h.g3, ?_, ?_, hb, hl, h.code⟩
  · have := kb.set 1 (.slice (some ⟨g, 0, none⟩) (y2.length + 1) cap)
    simpa using this
  · intro k hk e; rw [eo] at e; injection e with e; subst e; exact n1 hk
  · intro k hk; rw [eo] at hk; injection hk with hk; subst hk; exact n3
  · rw [eo]; intro e; injection e with e; exact hgG e
  · exact ⟨rd.blk.other _ _ (by dsimp only; omega), turn_bs' (turn_set W' G 1 _) rd.bs (fun h0 k hk b off e => by subst hk; have := h.code h0 b off e; omega), rd.small, rd.far⟩
  · exact ⟨t.os, t.tape, t.output, by rw [size_setCell]; exact t.size, fun k hk hn => by rw [heap_setCell_other _ _ _ _ (by dsimp only; omega)]; exact t.block k hk hn⟩
end Go.Proofs.YtaillnegkfagfacGreat

namespace Go.Proofs.YtaillnegkfagfacGreat
open Go.RowKit
set_option linter.unusedVariables false
set_option linter.unusedSimpArgs false
set_option maxRecDepth 100000

/-- THE STATE OF l3DrawCore: its result's block, the core at G with registers of its own, the reader. -/
structure Ks (w W : World) (r : Nat) (a : Option Addr) (n c : Nat) (zs : List Int) (kk G : Nat) (pc : Int) (v : Value) (xs : List Int) : Prop where
  res : Blk W w.heap.size #[.int .i64 0, .slice none 0 0] 25
  box : Blk W G #[.int .i64 pc, v] 25
  o : OI W (w.heap.size + 1) v xs
  rd : Rdr W r a n c zs kk
  turn : Turn (fun j => j = r) w W
  big : w.heap.size < G
  low : r < w.heap.size
  code : n ≠ 0 → ∀ b off, a = some ⟨b, off, none⟩ → b < w.heap.size
theorem Ks.far {w W : World} {r : Nat} {a : Option Addr} {n c : Nat} {zs : List Int} {kk G : Nat} {pc : Int} {v : Value} {xs : List Int} (h : Ks w W r a n c zs kk G pc v xs) : v.ownBlock ≠ some G := oi_ne h.o h.box (by decide)
theorem Ks.next {w W W' : World} {r : Nat} {a : Option Addr} {n c : Nat} {zs : List Int} {kk k2 G : Nat} {pc : Int} {v : Value} {xs : List Int} (h : Ks w W r a n c zs kk G pc v xs) (hr : Rdr W' r a n c zs k2) (t : Turn (fun j => j = r) W W') : Ks w W' r a n c zs k2 G pc v xs := by
  have hb := h.big
  have hl := h.low
  exact ⟨turn_blk t h.res (by omega), turn_blk t h.box (by omega), turn_oi t h.o (fun k hk e => by have := (h.o.lt k hk).1; omega), hr, h.turn.trans t, hb, hl, h.code⟩
theorem Ks.below {w W W' : World} {r : Nat} {a : Option Addr} {n c : Nat} {zs : List Int} {kk G : Nat} {pc : Int} {v : Value} {xs : List Int} (h : Ks w W r a n c zs kk G pc v xs) (b : Below W.heap.size W W') : Ks w W' r a n c zs kk G pc v xs :=
  ⟨h.res.below b, h.box.below b, h.o.below b, rdr_below h.rd b, h.turn.trans (turn_below b), h.big, h.low, h.code⟩
theorem Ks.more {w W : World} {r : Nat} {a : Option Addr} {n c : Nat} {zs : List Int} {kk G : Nat} {pc : Int} {v : Value} {xs : List Int} (h : Ks w W r a n c zs kk G pc v xs) (O : Obj) : Ks w (W.alloc O) r a n c zs kk G pc v xs := h.below ((Below.refl _ _).alloc (Nat.le_refl _) O)
theorem Ks.drew {w W : World} {r : Nat} {a : Option Addr} {n c : Nat} {zs : List Int} {kk G : Nat} {pc : Int} {v : Value} {xs : List Int} (h : Ks w W r a n c zs kk G pc v xs) : Ks w W.drew r a n c zs kk G pc v xs := h.below (Below.refl _ _).drew
/-- a cell of the core's box, or of its registers, is set -/
theorem Ks.cell {w W : World} {r : Nat} {a : Option Addr} {n c : Nat} {zs : List Int} {kk G b i : Nat} {pc pc' : Int} {v v' u : Value} {xs xs' : List Int} (h : Ks w W r a n c zs kk G pc v xs) (hb : w.heap.size < b) (hx : Blk (W.setCell ⟨b, i, none⟩ u) G #[.int .i64 pc', v'] 25) (ho : OI (W.setCell ⟨b, i, none⟩ u) (w.heap.size + 1) v' xs') : Ks w (W.setCell ⟨b, i, none⟩ u) r a n c zs kk G pc' v' xs' := by
  have hl := h.low
  exact ⟨h.res.other _ _ (by dsimp only; omega), hx, ho, rdr_set h.rd (by omega) (fun h0 b' off e => by have := h.code h0 b' off e; omega) _ _, turn_new h.turn (by omega) _ _, h.big, hl, h.code⟩
theorem Ks.pcs {w W : World} {r : Nat} {a : Option Addr} {n c : Nat} {zs : List Int} {kk G : Nat} {pc : Int} {v : Value} {xs : List Int} (h : Ks w W r a n c zs kk G pc v xs) (p : Int) : Ks w (W.setCell ⟨G, 0, none⟩ (.int .i64 p)) r a n c zs kk G p v xs :=
  h.cell h.big (by have := h.box.set 0 (.int .i64 p); simpa using this) (oi_far (g := G) h.o _ _ h.far)
theorem Ks.reg {w W : World} {r : Nat} {a : Option Addr} {n c : Nat} {zs : List Int} {kk G g m d : Nat} {pc : Int} {xs : List Int} (h : Ks w W r a n c zs kk G pc (.slice (some ⟨g, 0, none⟩) m d) xs) (i : Nat) (hi : i < m) (z : Int) (hz : wfi z) : Ks w (W.setCell ⟨g, i, none⟩ (.int .i64 z)) r a n c zs kk G pc (.slice (some ⟨g, 0, none⟩) m d) (xs.set i z) := by
  have l := (h.o.lt g rfl).1
  have f := h.far
  exact h.cell (by omega) (h.box.other _ _ (by dsimp only; intro e; subst e; exact f rfl)) (oi_set h.o i hi z hz)
theorem Ks.grow {w W W' : World} {r : Nat} {a : Option Addr} {n c : Nat} {zs : List Int} {kk G : Nat} {pc : Int} {v : Value} {xs : List Int} (h : Ks w W r a n c zs kk G pc v xs) (z : Int) (hz : wfi z) (g cap H : Nat)
    (ho : W'.ownsRow (w.heap.size + 1) 3 1 (.slice (some ⟨g, 0, none⟩) (xs.length + 1) cap) (xs.length + 1) (xs.map (Value.int .i64) ++ [Value.int .i64 z])) (hg : W.grownBy W' v.ownBlock) (hat : v.ownBlock = some g ∨ g = H) (hH : H = W.heap.size) :
    Ks w (W'.setCell ⟨G, 1, none⟩ (.slice (some ⟨g, 0, none⟩) (xs.length + 1) cap)) r a n c zs kk G pc (.slice (some ⟨g, 0, none⟩) (xs.length + 1) cap) (xs ++ [z]) := by
  have hb := h.big
  have hl := h.low
  have e1 : ∀ k, v.ownBlock = some k → w.heap.size + 1 ≤ k := fun k hk => (h.o.lt k hk).1
  have q : OI W' (w.heap.size + 1) (.slice (some ⟨g, 0, none⟩) (xs.length + 1) cap) (xs ++ [z]) := ⟨by simpa using ho, fun y hy => by
    rcases List.mem_append.1 hy with hy | hy
    · exact h.o.2 y hy
    · simp at hy; subst hy; exact hz⟩
  have t : Turn (fun j => j = r) w W' := by
    refine ⟨hg.os.trans h.turn.os, hg.tape.trans h.turn.tape, hg.output.trans h.turn.output, Nat.le_trans h.turn.size hg.size, fun k hk hn => ?_⟩
    rw [hg.block k (Nat.lt_of_lt_of_le hk h.turn.size) (fun e => by have := e1 _ e.symm; omega)]
    exact h.turn.block k hk hn
  have kb := grown_blk hg h.box (fun e => h.far e.symm)
  have K : Ks w W' r a n c zs kk G pc v xs → True := fun _ => trivial
  have rd := grown_rdr hg h.rd (fun e => by have := e1 _ e; omega) (fun h0 b off ea e => by have := e1 _ e; have := h.code h0 b off ea; omega)
  refine ⟨(grown_blk hg h.res (fun e => by have := e1 _ e.symm; omega)).other _ _ (by dsimp only; omega), ?_, oi_far (g := G) q _ _ (oi_ne q kb (by decide)), rdr_set rd (by omega) (fun h0 b' off e => by have := h.code h0 b' off e; omega) _ _, turn_new t (by omega) _ _, hb, hl, h.code⟩
  have := kb.set 1 (.slice (some ⟨g, 0, none⟩) (xs.length + 1) cap)
  simpa using this

theorem oi_take {w : World} {base g n cap : Nat} {zs : List Int} (h : OI w base (.slice (some ⟨g, 0, none⟩) n cap) zs) (m : Nat) (hm : m ≤ n) : OI w base (.slice (some ⟨g, 0, none⟩) m cap) (zs.take m) := by
  obtain ⟨⟨hl, h0 | ⟨g', cap', cur, hv, hg, hh, h1, h2, h3, h4⟩⟩, hr⟩ := h
  · simp at h0
  · simp at hv
    obtain ⟨rfl, rfl, rfl⟩ := hv
    have e : (zs.take m).length = m := by simp; omega
    refine ⟨⟨by simp, .inr ⟨g, cap, cur, by rw [e], hg, hh, by omega, h2, h3, ?_⟩⟩, fun y hy => hr y (List.mem_of_mem_take hy)⟩
    rw [e, List.map_take, ← h4, List.take_take]
    congr 1
    omega
theorem Ks.cut {w W : World} {r : Nat} {a : Option Addr} {n c : Nat} {zs : List Int} {kk G g m d : Nat} {pc : Int} {xs : List Int} (h : Ks w W r a n c zs kk G pc (.slice (some ⟨g, 0, none⟩) m d) xs) (i : Nat) (hi : i ≤ m) : Ks w (W.setCell ⟨G, 1, none⟩ (.slice (some ⟨g, 0, none⟩) i d)) r a n c zs kk G pc (.slice (some ⟨g, 0, none⟩) i d) (xs.take i) :=
  h.cell h.big (by have := h.box.set 1 (.slice (some ⟨g, 0, none⟩) i d); simpa using this) (oi_far (g := G) (oi_take h.o i hi) _ _ h.far)

/-- a register that is drawn -/
def regF (v : Int) : Int := if v / 32 = 0 then v else if v / 32 = 1 then 65536 + v % 32 else if v / 32 = 2 then 65536 else if v / 32 = 3 then 4294967295 - v else if v / 32 = 4 then 131072 else if v / 32 = 5 then v * 16777215 else if v / 32 = 6 then v % 32 else 0
def regL (zs : List Int) (k j : Nat) : List Int := (List.range j).map fun i => regF (zs.getD (k + i) 0)
theorem regL_len (zs : List Int) (k j : Nat) : (regL zs k j).length = j := by simp [regL]
theorem regL_step (zs : List Int) (k j : Nat) : regL zs k j ++ [regF (zs.getD (k + j) 0)] = regL zs k (j + 1) := by simp [regL, List.range_succ]
/-- what l3DrawCore draws -/
def dcP (K : Int) : Int := if K % 32 = 21 then K % 4 * 4 + (K / 32 + 1) else K % 4 * 4
def dcR (K : Int) (L : List Int) : List Int := if K = 255 then ((L.set 7 65536).set 6 65560).set 0 4294967296 else if K = 254 then ((L.set 7 65536).set 6 65560).take 7 else (L.set 7 65536).set 6 65560
def DcPost (w : World) (r : Nat) (a : Option Addr) (n c : Nat) (zs : List Int) (kk : Nat) (pc : Int) (xs : List Int) (e : Ending) (w' : World) : Prop :=
  ∃ g d, e = .returned (.agg #[.int .i64 pc, .slice (some ⟨g, 0, none⟩) xs.length d]) ∧ IS w' (some ⟨g, 0, none⟩) xs.length d xs ∧ w.heap.size ≤ g ∧ Rdr w' r a n c zs kk ∧ Turn (fun j => j = r) w w'
theorem turn_is {S : Nat → Prop} {w w' : World} {a : Option Addr} {n cap : Nat} {zs : List Int} (ht : Turn S w w') (h : IS w a n cap zs) (hk : ∀ k, S k → ∀ b off, a = some ⟨b, off, none⟩ → b ≠ k) : IS w' a n cap zs := by
  obtain ⟨h1, h2, h3, h4, h5⟩ := h
  refine ⟨h1, h2, h3, fun hn => ?_, h5⟩
  obtain ⟨b, off, rfl, hc⟩ := h4 hn
  refine ⟨b, off, rfl, fun i hi => ?_⟩
  have hb := World.block_lt_of_cell? w _ (hc i hi)
  rw [← hc i hi]
  exact World.cell?_of_block (ht.block b hb (fun e => hk b e b off rfl rfl))
theorem IS.take7 {w : World} {g n cap : Nat} {zs : List Int} (h : IS w (some ⟨g, 0, none⟩) n cap zs) (m : Nat) (hm : m ≤ n) : IS w (some ⟨g, 0, none⟩) m cap (zs.take m) := by
  have hl := h.1
  have hmx := h.2.1
  have hcp := h.2.2.2.2
  refine ⟨by simp; omega, by omega, fun z hz => h.2.2.1 z (List.mem_of_mem_take hz), fun h0 => ⟨g, 0, rfl, fun i hi => ?_⟩, by omega⟩
  rw [h.at i (by omega)]
  simp [List.getD_eq_getElem?_getD, List.getElem?_take, hi]
theorem Ks.done {w W : World} {r : Nat} {a : Option Addr} {n c : Nat} {zs : List Int} {kk G g m d m0 : Nat} {pc : Int} {xs ys : List Int} (h : Ks w W r a n c zs kk G pc (.slice (some ⟨g, 0, none⟩) m0 d) xs) (hi : IS W (some ⟨g, 0, none⟩) m d ys) (fn : Func) (hf : fn.results = #[.cell 2 25]) (tmps : Array Value) (h2 : tmps[2]? = some (.pointer (some ⟨w.heap.size, 0, none⟩))) :
    bodyPost Tryz.prog fn (DcPost w r a n c zs kk pc ys) Exit.ret ⟨tmps, []⟩ ((W.setCell ⟨w.heap.size, 0, none⟩ (.int .i64 pc)).setCell ⟨w.heap.size, 1, none⟩ (.slice (some ⟨g, 0, none⟩) m d)) := by
  have hl := h.low
  have l := (h.o.lt g rfl).1
  have e1 := hi.1
  subst e1
  have st : ∀ (V : World) (i : Nat) (v : Value), Turn (fun j => j = w.heap.size) V (V.setCell ⟨w.heap.size, i, none⟩ v) := fun V i v => turn_set V _ i v
  have T3 := (st W 0 (.int .i64 pc)).trans (st _ 1 (.slice (some ⟨g, 0, none⟩) ys.length d))
  have hz := (h.res.set 0 (.int .i64 pc)).set 1 (.slice (some ⟨g, 0, none⟩) ys.length d)
  have hI := turn_is T3 hi (fun k hk b off e => by injection e with e; injection e with e; omega)
  have hR := rdr_turn h.rd T3 (by omega) (fun h0 k hk b off e => by have := h.code h0 b off e; omega)
  have hT : Turn (fun j => j = r) w _ := turn_new (turn_new h.turn (Nat.le_refl _) 0 (.int .i64 pc)) (Nat.le_refl _) 1 (.slice (some ⟨g, 0, none⟩) ys.length d)
  generalize (W.setCell ⟨w.heap.size, 0, none⟩ (.int .i64 pc)).setCell ⟨w.heap.size, 1, none⟩ (.slice (some ⟨g, 0, none⟩) ys.length d) = V at *
  refine bodyPost_ret (v := .agg #[.int .i64 pc, .slice (some ⟨g, 0, none⟩) ys.length d]) ?_ rfl ⟨g, d, rfl, hI, by omega, hR, hT⟩
  have hz' : Blk V w.heap.size #[.int .i64 pc, .slice (some ⟨g, 0, none⟩) ys.length d] 25 := by simpa using hz
  obtain ⟨p1, p2, p3⟩ := hz'.two
  simp [results, hf, go_sem, h2, p1, p2]
end Go.Proofs.YtaillnegkfagfacGreat

namespace Go.Proofs.YtaillnegkfagfacGreat
open Go.RowKit
set_option linter.unusedVariables false

theorem okI_bounds {op d a i : Int} (h : okI op d a i = true) : 1 ≤ op ∧ op ≤ 25 ∧ 0 ≤ d ∧ d ≤ 7 ∧ 0 ≤ a ∧ a ≤ 7 ∧ 0 ≤ i ∧ i ≤ 65535 := by
  unfold okI okU at h
  simp at h
  obtain ⟨h0, h1, h2, h3, h4, h5, h6⟩ := h
  have hx : mD (us op) ≤ 7 := by unfold mD; split <;> omega
  have hy : mA (us op) ≤ 7 := by unfold mA; split <;> omega
  have hz : mI (us op) ≤ 65535 := by unfold mI; split <;> omega
  by_cases ho : op ≤ 0 ∨ 26 ≤ op
  · rw [us_out op ho] at h0
    omega
  · omega
/-- the word of an instruction -/
def enc (op d a i : Int) : Int := op * 67108864 + d * 8388608 + a * 1048576 + i
def encV (op d a i : Int) : Int := if okI op d a i then enc op d a i else 0

theorem enc_or (op d a i : Int) (h : okI op d a i = true) : bits .or .i64 (bits .or .i64 (bits .or .i64 (op * 67108864) (d * 8388608)) (a * 1048576)) i = enc op d a i := by
  obtain ⟨h1, h2, h3, h4, h5, h6, h7, h8⟩ := okI_bounds h
  rw [join62 26 (op * 67108864) (d * 8388608) (by omega) (by omega) (by omega) (by omega) (by omega) (by omega)]
  rw [join62 23 (op * 67108864 + d * 8388608) (a * 1048576) (by omega) (by omega) (by omega) (by omega) (by omega) (by omega)]
  rw [join62 20 (op * 67108864 + d * 8388608 + a * 1048576) i (by omega) (by omega) (by omega) (by omega) (by omega) (by omega)]
  rfl

set_option maxHeartbeats 1000000 in
theorem sEncode_any (op d a i : Int) (w : World) :
    Calls Tryz.prog 36 #[.agg #[.int .i64 op, .int .i64 d, .int .i64 a, .int .i64 i]] w fun e w' => e = .returned (.tuple #[.int .i64 (encV op d a i), .bool (okI op d a i)]) ∧ Below w.heap.size w w' := by
  have kb := Blk.new w #[.int .i64 op, .int .i64 d, .int .i64 a, .int .i64 i] 53
  have hB0 : Below w.heap.size w (w.alloc (.cells #[.int .i64 op, .int .i64 d, .int .i64 a, .int .i64 i] 53)) := (Below.refl _ _).alloc (Nat.le_refl _) _
  have HI := hide (l3InsOk_any op d a i)
  unfold encV
  cases hk : okI op d a i
  · rw [hk] at HI
    clear hk
    rw [if_neg (by simp)]
    go_enter Tryz.func36, Tryz.ntmps36
    go_wp2_with fail
    refine (HI.out _).mono ?_
    rintro e w1 ⟨rfl, hb1⟩
    go_wp2
    go_ret2
    exact ⟨rfl, hB0.trans (hb1.mono (by simp))⟩
  · obtain ⟨h1, h2, h3, h4, h5, h6, h7, h8⟩ := okI_bounds hk
    rw [hk] at HI
    clear hk
    rw [if_pos rfl]
    unfold enc
    go_enter Tryz.func36, Tryz.ntmps36
    go_wp2_with fail
    refine (HI.out _).mono ?_
    rintro e w1 ⟨rfl, hb1⟩
    obtain ⟨p1, p2, p3, p4, p5⟩ := (kb.below hb1).four'
    go_wp2
    go_ret2
    exact ⟨rfl, hB0.trans (hb1.mono (by simp))⟩

end Go.Proofs.YtaillnegkfagfacGreat
