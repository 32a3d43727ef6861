import Derived.Deep.AppendLies
import Derived.Deep.OwnRows
import Derived.Deep.RegionLaw
import Derived.Defers
import Derived.Laws.IdiomStrings
import Derived.Maps.OwnSet
import Derived.Recover
import Derived.Test.YtngdgogjlpjjpacP00
import Derived.Test.YtngdgogjlpjjpacP01
import Derived.Test.YtngdgogjlpjjpacP05
import Derived.Test.YtngdgogjlpjjpacP07
namespace Go.Proofs.Ytngdgogjlpjjpac
open Go.RowKit
set_option linter.unusedVariables false
set_option linter.unusedSimpArgs false
set_option maxHeartbeats 2000000 in
theorem l3Ins_16 (zs : List Int) (k : Nat) (hz : ∀ j, 0 ≤ zs.getD j 0 ∧ zs.getD j 0 ≤ 255) (v1 : Int) (E1 : Hid (zs.getD k 0 = v1)) (z0 : 0 ≤ v1) (z0' : v1 ≤ 255) (HOP : Hid (∀ W : World, (W.alloc (.cells #[.int .i64 2, .int .i64 6, .int .i64 15, .int .i64 16, .int .i64 19, .int .i64 20, .int .i64 21, .int .i64 22, .int .i64 23, .int .i64 24, .int .i64 25, .int .i64 1, .int .i64 3, .int .i64 4, .int .i64 5, .int .i64 7, .int .i64 8, .int .i64 9, .int .i64 10, .int .i64 11, .int .i64 12, .int .i64 13, .int .i64 14, .int .i64 17, .int .i64 18] 3)).cell? ⟨W.heap.size, (v1 % 25).toNat, none⟩ = some (.int .i64 16))) :
    ∃ (d x i : Int) (k' : Nat), (-1 ≤ (16 : Int) ∧ (16 : Int) ≤ 64 ∧ -1 ≤ d ∧ d ≤ 10 ∧ -1 ≤ x ∧ x ≤ 10 ∧ -1 ≤ i ∧ i ≤ 65536) ∧ ∀ (r : Nat) (a : Option Addr) (n c : Nat) (w : World) (h : Rdr w r a n c zs k) (hcode : n ≠ 0 → ∀ b off, a = some ⟨b, off, none⟩ → b < w.heap.size), Calls Try.prog 157 #[.pointer (some ⟨r, 0, none⟩)] w (InsDr w r a n c zs 16 d x i k') := by
  obtain ⟨v2, E2, z1, z1'⟩ := draw_of hz (k + 1)
  obtain ⟨v3, E3, z2, z2'⟩ := draw_of hz (k + 1 + 1)
  clear hz
  obtain ⟨A, hA0, hA1, hAT⟩ := aTab_at (v2 / 4 % 8).toNat (by omega)
  have HAT := hide hAT
  clear hAT
  by_cases hA6 : A = 6
  · have HCD := hide hA6
    clear hA6
    refine ⟨v2 % 4, A, 65532 - v3 % 16 / 4 * 4, k + 1 + 1 + 1, by omega, fun r a n c w h hcode => ?_⟩
    have hrw := h.blk.lt
    have T0 : Turn (fun j => j = r) w (w.alloc (.cells #[.int .i64 0, .int .i64 0, .int .i64 0, .int .i64 0] 162)) := turn_alloc w _
    have kr0 := Blk.new w #[.int .i64 0, .int .i64 0, .int .i64 0, .int .i64 0] 162
    have h0 := rdr_below h ((Below.refl w.heap.size w).alloc (Nat.le_refl _) (.cells #[.int .i64 0, .int .i64 0, .int .i64 0, .int .i64 0] 162))
    clear h
    go_enter Try.func157, Try.ntmps157
    go_wp2_with fail
    refine (next_is r a n c zs k v1 _ h0 E1).mono ?_
    rintro e w1 ⟨rfl, h1, t1⟩
    have kr1 := turn_blk t1 kr0 (by omega)
    have T1 := T0.trans t1
    clear t1 kr0 T0 h0
    have hop := HOP.out w1
    have kop := Blk.new (w1.alloc (.cells #[.int .i64 2, .int .i64 6, .int .i64 15, .int .i64 16, .int .i64 19, .int .i64 20, .int .i64 21, .int .i64 22, .int .i64 23, .int .i64 24, .int .i64 25, .int .i64 1, .int .i64 3, .int .i64 4, .int .i64 5, .int .i64 7, .int .i64 8, .int .i64 9, .int .i64 10, .int .i64 11, .int .i64 12, .int .i64 13, .int .i64 14, .int .i64 17, .int .i64 18] 3)) #[.int .i64 16, .int .i64 0, .int .i64 0, .int .i64 0] 162
    have h1' := rdr_below (rdr_below h1 ((Below.refl w1.heap.size w1).alloc (Nat.le_refl _) (.cells #[.int .i64 2, .int .i64 6, .int .i64 15, .int .i64 16, .int .i64 19, .int .i64 20, .int .i64 21, .int .i64 22, .int .i64 23, .int .i64 24, .int .i64 25, .int .i64 1, .int .i64 3, .int .i64 4, .int .i64 5, .int .i64 7, .int .i64 8, .int .i64 9, .int .i64 10, .int .i64 11, .int .i64 12, .int .i64 13, .int .i64 14, .int .i64 17, .int .i64 18] 3))) ((Below.refl _ _).alloc (Nat.le_refl _) (.cells #[.int .i64 16, .int .i64 0, .int .i64 0, .int .i64 0] 162))
    have T1' := (T1.trans (turn_alloc w1 (.cells #[.int .i64 2, .int .i64 6, .int .i64 15, .int .i64 16, .int .i64 19, .int .i64 20, .int .i64 21, .int .i64 22, .int .i64 23, .int .i64 24, .int .i64 25, .int .i64 1, .int .i64 3, .int .i64 4, .int .i64 5, .int .i64 7, .int .i64 8, .int .i64 9, .int .i64 10, .int .i64 11, .int .i64 12, .int .i64 13, .int .i64 14, .int .i64 17, .int .i64 18] 3))).trans (turn_alloc _ (.cells #[.int .i64 16, .int .i64 0, .int .i64 0, .int .i64 0] 162))
    have kr1' := (kr1.alloc (.cells #[.int .i64 2, .int .i64 6, .int .i64 15, .int .i64 16, .int .i64 19, .int .i64 20, .int .i64 21, .int .i64 22, .int .i64 23, .int .i64 24, .int .i64 25, .int .i64 1, .int .i64 3, .int .i64 4, .int .i64 5, .int .i64 7, .int .i64 8, .int .i64 9, .int .i64 10, .int .i64 11, .int .i64 12, .int .i64 13, .int .i64 14, .int .i64 17, .int .i64 18] 3)).alloc (.cells #[.int .i64 16, .int .i64 0, .int .i64 0, .int .i64 0] 162)
    have hlt1 := kr1.lt
    clear kr1 T1 h1
    simp only [World.size_alloc] at kop
    go_wp2_with fail
    refine (next_is r a n c zs (k + 1) v2 _ h1' E2).mono ?_
    rintro e w2 ⟨rfl, h2, t2⟩
    have kr2 := turn_blk t2 kr1' (by omega)
    have ko2 := turn_blk t2 kop (by omega)
    have T2 := T1'.trans t2
    have hz2 := t2.size
    simp only [World.size_alloc] at hz2
    clear t2 kr1' T1' h1' kop hop
    obtain ⟨q1, q2, q3, q4, q5⟩ := ko2.four'
    obtain ⟨p1, p2, p3, p4, p5⟩ := kr2.four'
    go_wp2_with fail
    refine (l3Uses_any 16 _).mono ?_
    rintro e wx ⟨rfl, rfl⟩
    have H : Is w w2 r a n c zs (k + 1 + 1) (w1.heap.size + 1) 16 0 0 0 := ⟨kr2, ko2, h2, T2, by omega, hrw, hcode⟩
    have HH := hide H
    clear H kr2 ko2 h2 T2 hcode
    have hbig : w.heap.size < w1.heap.size + 1 := by omega
    have hlt2 : w1.heap.size + 1 < w2.heap.size := by omega
    have hlt3 : w.heap.size < w2.heap.size := by omega
    rw [show us 16 = 7 from by decide]
    have hA := HAT.out (w2.setCell ⟨w1.heap.size + 1, 1, none⟩ (.int .i64 (v2 % 4)))
    simp only [size_setCell] at hA
    have N := (((HH.out.set1 (v2 % 4)).set2 A).more (.cells #[.int .i64 7, .int .i64 6, .int .i64 0, .int .i64 1, .int .i64 2, .int .i64 7, .int .i64 6, .int .i64 3] 3))
    go_wp2_with fail
    refine (next_is r a n c zs (k + 1 + 1) v3 _ N.rd E3).mono ?_
    rintro e w3 ⟨rfl, hr3, t3⟩
    have N3 := N.next hr3 t3
    have hz3 := t3.size
    try simp only [World.size_alloc, size_setCell] at hz3
    clear N hr3 t3 q1 q2 q3 q4 q5 p1 p2 p3 p4 p5 HH hA
    obtain ⟨q1, q2, q3, q4, q5⟩ := N3.ins.four'
    obtain ⟨p1, p2, p3, p4, p5⟩ := N3.res.four'
    have HN := hide N3
    clear N3
    have hA6 := HCD.out
    subst hA6
    have hx := ((((HN.out.set3 (v3 % 16)).set3 (v3 % 16 / 4 * 4)).set3 (65532 - v3 % 16 / 4 * 4)).ins.four').2.2.2.1
    go_wp2
    (with_reducible refine (((HN.out.set3 (v3 % 16)).set3 (v3 % 16 / 4 * 4)).set3 (65532 - v3 % 16 / 4 * 4)).done _ Try.results157 _ ?_ ?_); rfl; omega
  · have HCD := hide hA6
    clear hA6
    refine ⟨v2 % 4, A, v3 % 16 / 4 * 4, k + 1 + 1 + 1, by omega, fun r a n c w h hcode => ?_⟩
    have hrw := h.blk.lt
    have T0 : Turn (fun j => j = r) w (w.alloc (.cells #[.int .i64 0, .int .i64 0, .int .i64 0, .int .i64 0] 162)) := turn_alloc w _
    have kr0 := Blk.new w #[.int .i64 0, .int .i64 0, .int .i64 0, .int .i64 0] 162
    have h0 := rdr_below h ((Below.refl w.heap.size w).alloc (Nat.le_refl _) (.cells #[.int .i64 0, .int .i64 0, .int .i64 0, .int .i64 0] 162))
    clear h
    go_enter Try.func157, Try.ntmps157
    go_wp2_with fail
    refine (next_is r a n c zs k v1 _ h0 E1).mono ?_
    rintro e w1 ⟨rfl, h1, t1⟩
    have kr1 := turn_blk t1 kr0 (by omega)
    have T1 := T0.trans t1
    clear t1 kr0 T0 h0
    have hop := HOP.out w1
    have kop := Blk.new (w1.alloc (.cells #[.int .i64 2, .int .i64 6, .int .i64 15, .int .i64 16, .int .i64 19, .int .i64 20, .int .i64 21, .int .i64 22, .int .i64 23, .int .i64 24, .int .i64 25, .int .i64 1, .int .i64 3, .int .i64 4, .int .i64 5, .int .i64 7, .int .i64 8, .int .i64 9, .int .i64 10, .int .i64 11, .int .i64 12, .int .i64 13, .int .i64 14, .int .i64 17, .int .i64 18] 3)) #[.int .i64 16, .int .i64 0, .int .i64 0, .int .i64 0] 162
    have h1' := rdr_below (rdr_below h1 ((Below.refl w1.heap.size w1).alloc (Nat.le_refl _) (.cells #[.int .i64 2, .int .i64 6, .int .i64 15, .int .i64 16, .int .i64 19, .int .i64 20, .int .i64 21, .int .i64 22, .int .i64 23, .int .i64 24, .int .i64 25, .int .i64 1, .int .i64 3, .int .i64 4, .int .i64 5, .int .i64 7, .int .i64 8, .int .i64 9, .int .i64 10, .int .i64 11, .int .i64 12, .int .i64 13, .int .i64 14, .int .i64 17, .int .i64 18] 3))) ((Below.refl _ _).alloc (Nat.le_refl _) (.cells #[.int .i64 16, .int .i64 0, .int .i64 0, .int .i64 0] 162))
    have T1' := (T1.trans (turn_alloc w1 (.cells #[.int .i64 2, .int .i64 6, .int .i64 15, .int .i64 16, .int .i64 19, .int .i64 20, .int .i64 21, .int .i64 22, .int .i64 23, .int .i64 24, .int .i64 25, .int .i64 1, .int .i64 3, .int .i64 4, .int .i64 5, .int .i64 7, .int .i64 8, .int .i64 9, .int .i64 10, .int .i64 11, .int .i64 12, .int .i64 13, .int .i64 14, .int .i64 17, .int .i64 18] 3))).trans (turn_alloc _ (.cells #[.int .i64 16, .int .i64 0, .int .i64 0, .int .i64 0] 162))
    have kr1' := (kr1.alloc (.cells #[.int .i64 2, .int .i64 6, .int .i64 15, .int .i64 16, .int .i64 19, .int .i64 20, .int .i64 21, .int .i64 22, .int .i64 23, .int .i64 24, .int .i64 25, .int .i64 1, .int .i64 3, .int .i64 4, .int .i64 5, .int .i64 7, .int .i64 8, .int .i64 9, .int .i64 10, .int .i64 11, .int .i64 12, .int .i64 13, .int .i64 14, .int .i64 17, .int .i64 18] 3)).alloc (.cells #[.int .i64 16, .int .i64 0, .int .i64 0, .int .i64 0] 162)
    have hlt1 := kr1.lt
    clear kr1 T1 h1
    simp only [World.size_alloc] at kop
    go_wp2_with fail
    refine (next_is r a n c zs (k + 1) v2 _ h1' E2).mono ?_
    rintro e w2 ⟨rfl, h2, t2⟩
    have kr2 := turn_blk t2 kr1' (by omega)
    have ko2 := turn_blk t2 kop (by omega)
    have T2 := T1'.trans t2
    have hz2 := t2.size
    simp only [World.size_alloc] at hz2
    clear t2 kr1' T1' h1' kop hop
    obtain ⟨q1, q2, q3, q4, q5⟩ := ko2.four'
    obtain ⟨p1, p2, p3, p4, p5⟩ := kr2.four'
    go_wp2_with fail
    refine (l3Uses_any 16 _).mono ?_
    rintro e wx ⟨rfl, rfl⟩
    have H : Is w w2 r a n c zs (k + 1 + 1) (w1.heap.size + 1) 16 0 0 0 := ⟨kr2, ko2, h2, T2, by omega, hrw, hcode⟩
    have HH := hide H
    clear H kr2 ko2 h2 T2 hcode
    have hbig : w.heap.size < w1.heap.size + 1 := by omega
    have hlt2 : w1.heap.size + 1 < w2.heap.size := by omega
    have hlt3 : w.heap.size < w2.heap.size := by omega
    rw [show us 16 = 7 from by decide]
    have hA := HAT.out (w2.setCell ⟨w1.heap.size + 1, 1, none⟩ (.int .i64 (v2 % 4)))
    simp only [size_setCell] at hA
    have N := (((HH.out.set1 (v2 % 4)).set2 A).more (.cells #[.int .i64 7, .int .i64 6, .int .i64 0, .int .i64 1, .int .i64 2, .int .i64 7, .int .i64 6, .int .i64 3] 3))
    go_wp2_with fail
    refine (next_is r a n c zs (k + 1 + 1) v3 _ N.rd E3).mono ?_
    rintro e w3 ⟨rfl, hr3, t3⟩
    have N3 := N.next hr3 t3
    have hz3 := t3.size
    try simp only [World.size_alloc, size_setCell] at hz3
    clear N hr3 t3 q1 q2 q3 q4 q5 p1 p2 p3 p4 p5 HH hA
    obtain ⟨q1, q2, q3, q4, q5⟩ := N3.ins.four'
    obtain ⟨p1, p2, p3, p4, p5⟩ := N3.res.four'
    have HN := hide N3
    clear N3
    have hA6 := HCD.out
    have hA6 : (A == 6) = false := by simpa using hA6
    go_wp2
    (with_reducible refine ((HN.out.set3 (v3 % 16)).set3 (v3 % 16 / 4 * 4)).done _ Try.results157 _ ?_ ?_); rfl; omega
set_option maxHeartbeats 2000000 in
theorem l3Ins_17 (zs : List Int) (k : Nat) (hz : ∀ j, 0 ≤ zs.getD j 0 ∧ zs.getD j 0 ≤ 255) (v1 : Int) (E1 : Hid (zs.getD k 0 = v1)) (z0 : 0 ≤ v1) (z0' : v1 ≤ 255) (HOP : Hid (∀ W : World, (W.alloc (.cells #[.int .i64 2, .int .i64 6, .int .i64 15, .int .i64 16, .int .i64 19, .int .i64 20, .int .i64 21, .int .i64 22, .int .i64 23, .int .i64 24, .int .i64 25, .int .i64 1, .int .i64 3, .int .i64 4, .int .i64 5, .int .i64 7, .int .i64 8, .int .i64 9, .int .i64 10, .int .i64 11, .int .i64 12, .int .i64 13, .int .i64 14, .int .i64 17, .int .i64 18] 3)).cell? ⟨W.heap.size, (v1 % 25).toNat, none⟩ = some (.int .i64 17))) :
    ∃ (d x i : Int) (k' : Nat), (-1 ≤ (17 : Int) ∧ (17 : Int) ≤ 64 ∧ -1 ≤ d ∧ d ≤ 10 ∧ -1 ≤ x ∧ x ≤ 10 ∧ -1 ≤ i ∧ i ≤ 65536) ∧ ∀ (r : Nat) (a : Option Addr) (n c : Nat) (w : World) (h : Rdr w r a n c zs k) (hcode : n ≠ 0 → ∀ b off, a = some ⟨b, off, none⟩ → b < w.heap.size), Calls Try.prog 157 #[.pointer (some ⟨r, 0, none⟩)] w (InsDr w r a n c zs 17 d x i k') := by
  obtain ⟨v2, E2, z1, z1'⟩ := draw_of hz (k + 1)
  obtain ⟨v3, E3, z2, z2'⟩ := draw_of hz (k + 1 + 1)
  clear hz
  obtain ⟨A, hA0, hA1, hAT⟩ := aTab_at (v2 / 4 % 8).toNat (by omega)
  have HAT := hide hAT
  clear hAT
  by_cases hA6 : A = 6
  · have HCD := hide hA6
    clear hA6
    refine ⟨v2 % 4, A, 65532 - v3 % 16 / 4 * 4, k + 1 + 1 + 1, by omega, fun r a n c w h hcode => ?_⟩
    have hrw := h.blk.lt
    have T0 : Turn (fun j => j = r) w (w.alloc (.cells #[.int .i64 0, .int .i64 0, .int .i64 0, .int .i64 0] 162)) := turn_alloc w _
    have kr0 := Blk.new w #[.int .i64 0, .int .i64 0, .int .i64 0, .int .i64 0] 162
    have h0 := rdr_below h ((Below.refl w.heap.size w).alloc (Nat.le_refl _) (.cells #[.int .i64 0, .int .i64 0, .int .i64 0, .int .i64 0] 162))
    clear h
    go_enter Try.func157, Try.ntmps157
    go_wp2_with fail
    refine (next_is r a n c zs k v1 _ h0 E1).mono ?_
    rintro e w1 ⟨rfl, h1, t1⟩
    have kr1 := turn_blk t1 kr0 (by omega)
    have T1 := T0.trans t1
    clear t1 kr0 T0 h0
    have hop := HOP.out w1
    have kop := Blk.new (w1.alloc (.cells #[.int .i64 2, .int .i64 6, .int .i64 15, .int .i64 16, .int .i64 19, .int .i64 20, .int .i64 21, .int .i64 22, .int .i64 23, .int .i64 24, .int .i64 25, .int .i64 1, .int .i64 3, .int .i64 4, .int .i64 5, .int .i64 7, .int .i64 8, .int .i64 9, .int .i64 10, .int .i64 11, .int .i64 12, .int .i64 13, .int .i64 14, .int .i64 17, .int .i64 18] 3)) #[.int .i64 17, .int .i64 0, .int .i64 0, .int .i64 0] 162
    have h1' := rdr_below (rdr_below h1 ((Below.refl w1.heap.size w1).alloc (Nat.le_refl _) (.cells #[.int .i64 2, .int .i64 6, .int .i64 15, .int .i64 16, .int .i64 19, .int .i64 20, .int .i64 21, .int .i64 22, .int .i64 23, .int .i64 24, .int .i64 25, .int .i64 1, .int .i64 3, .int .i64 4, .int .i64 5, .int .i64 7, .int .i64 8, .int .i64 9, .int .i64 10, .int .i64 11, .int .i64 12, .int .i64 13, .int .i64 14, .int .i64 17, .int .i64 18] 3))) ((Below.refl _ _).alloc (Nat.le_refl _) (.cells #[.int .i64 17, .int .i64 0, .int .i64 0, .int .i64 0] 162))
    have T1' := (T1.trans (turn_alloc w1 (.cells #[.int .i64 2, .int .i64 6, .int .i64 15, .int .i64 16, .int .i64 19, .int .i64 20, .int .i64 21, .int .i64 22, .int .i64 23, .int .i64 24, .int .i64 25, .int .i64 1, .int .i64 3, .int .i64 4, .int .i64 5, .int .i64 7, .int .i64 8, .int .i64 9, .int .i64 10, .int .i64 11, .int .i64 12, .int .i64 13, .int .i64 14, .int .i64 17, .int .i64 18] 3))).trans (turn_alloc _ (.cells #[.int .i64 17, .int .i64 0, .int .i64 0, .int .i64 0] 162))
    have kr1' := (kr1.alloc (.cells #[.int .i64 2, .int .i64 6, .int .i64 15, .int .i64 16, .int .i64 19, .int .i64 20, .int .i64 21, .int .i64 22, .int .i64 23, .int .i64 24, .int .i64 25, .int .i64 1, .int .i64 3, .int .i64 4, .int .i64 5, .int .i64 7, .int .i64 8, .int .i64 9, .int .i64 10, .int .i64 11, .int .i64 12, .int .i64 13, .int .i64 14, .int .i64 17, .int .i64 18] 3)).alloc (.cells #[.int .i64 17, .int .i64 0, .int .i64 0, .int .i64 0] 162)
    have hlt1 := kr1.lt
    clear kr1 T1 h1
    simp only [World.size_alloc] at kop
    go_wp2_with fail
    refine (next_is r a n c zs (k + 1) v2 _ h1' E2).mono ?_
    rintro e w2 ⟨rfl, h2, t2⟩
    have kr2 := turn_blk t2 kr1' (by omega)
    have ko2 := turn_blk t2 kop (by omega)
    have T2 := T1'.trans t2
    have hz2 := t2.size
    simp only [World.size_alloc] at hz2
    clear t2 kr1' T1' h1' kop hop
    obtain ⟨q1, q2, q3, q4, q5⟩ := ko2.four'
    obtain ⟨p1, p2, p3, p4, p5⟩ := kr2.four'
    go_wp2_with fail
    refine (l3Uses_any 17 _).mono ?_
    rintro e wx ⟨rfl, rfl⟩
    have H : Is w w2 r a n c zs (k + 1 + 1) (w1.heap.size + 1) 17 0 0 0 := ⟨kr2, ko2, h2, T2, by omega, hrw, hcode⟩
    have HH := hide H
    clear H kr2 ko2 h2 T2 hcode
    have hbig : w.heap.size < w1.heap.size + 1 := by omega
    have hlt2 : w1.heap.size + 1 < w2.heap.size := by omega
    have hlt3 : w.heap.size < w2.heap.size := by omega
    rw [show us 17 = 7 from by decide]
    have hA := HAT.out (w2.setCell ⟨w1.heap.size + 1, 1, none⟩ (.int .i64 (v2 % 4)))
    simp only [size_setCell] at hA
    have N := (((HH.out.set1 (v2 % 4)).set2 A).more (.cells #[.int .i64 7, .int .i64 6, .int .i64 0, .int .i64 1, .int .i64 2, .int .i64 7, .int .i64 6, .int .i64 3] 3))
    go_wp2_with fail
    refine (next_is r a n c zs (k + 1 + 1) v3 _ N.rd E3).mono ?_
    rintro e w3 ⟨rfl, hr3, t3⟩
    have N3 := N.next hr3 t3
    have hz3 := t3.size
    try simp only [World.size_alloc, size_setCell] at hz3
    clear N hr3 t3 q1 q2 q3 q4 q5 p1 p2 p3 p4 p5 HH hA
    obtain ⟨q1, q2, q3, q4, q5⟩ := N3.ins.four'
    obtain ⟨p1, p2, p3, p4, p5⟩ := N3.res.four'
    have HN := hide N3
    clear N3
    have hA6 := HCD.out
    subst hA6
    go_wp2
    (with_reducible refine ((HN.out.set3 (v3 % 16)).set3 (65532 - v3 % 16 / 4 * 4)).done _ Try.results157 _ ?_ ?_); rfl; omega
  · have HCD := hide hA6
    clear hA6
    refine ⟨v2 % 4, A, v3 % 16, k + 1 + 1 + 1, by omega, fun r a n c w h hcode => ?_⟩
    have hrw := h.blk.lt
    have T0 : Turn (fun j => j = r) w (w.alloc (.cells #[.int .i64 0, .int .i64 0, .int .i64 0, .int .i64 0] 162)) := turn_alloc w _
    have kr0 := Blk.new w #[.int .i64 0, .int .i64 0, .int .i64 0, .int .i64 0] 162
    have h0 := rdr_below h ((Below.refl w.heap.size w).alloc (Nat.le_refl _) (.cells #[.int .i64 0, .int .i64 0, .int .i64 0, .int .i64 0] 162))
    clear h
    go_enter Try.func157, Try.ntmps157
    go_wp2_with fail
    refine (next_is r a n c zs k v1 _ h0 E1).mono ?_
    rintro e w1 ⟨rfl, h1, t1⟩
    have kr1 := turn_blk t1 kr0 (by omega)
    have T1 := T0.trans t1
    clear t1 kr0 T0 h0
    have hop := HOP.out w1
    have kop := Blk.new (w1.alloc (.cells #[.int .i64 2, .int .i64 6, .int .i64 15, .int .i64 16, .int .i64 19, .int .i64 20, .int .i64 21, .int .i64 22, .int .i64 23, .int .i64 24, .int .i64 25, .int .i64 1, .int .i64 3, .int .i64 4, .int .i64 5, .int .i64 7, .int .i64 8, .int .i64 9, .int .i64 10, .int .i64 11, .int .i64 12, .int .i64 13, .int .i64 14, .int .i64 17, .int .i64 18] 3)) #[.int .i64 17, .int .i64 0, .int .i64 0, .int .i64 0] 162
    have h1' := rdr_below (rdr_below h1 ((Below.refl w1.heap.size w1).alloc (Nat.le_refl _) (.cells #[.int .i64 2, .int .i64 6, .int .i64 15, .int .i64 16, .int .i64 19, .int .i64 20, .int .i64 21, .int .i64 22, .int .i64 23, .int .i64 24, .int .i64 25, .int .i64 1, .int .i64 3, .int .i64 4, .int .i64 5, .int .i64 7, .int .i64 8, .int .i64 9, .int .i64 10, .int .i64 11, .int .i64 12, .int .i64 13, .int .i64 14, .int .i64 17, .int .i64 18] 3))) ((Below.refl _ _).alloc (Nat.le_refl _) (.cells #[.int .i64 17, .int .i64 0, .int .i64 0, .int .i64 0] 162))
    have T1' := (T1.trans (turn_alloc w1 (.cells #[.int .i64 2, .int .i64 6, .int .i64 15, .int .i64 16, .int .i64 19, .int .i64 20, .int .i64 21, .int .i64 22, .int .i64 23, .int .i64 24, .int .i64 25, .int .i64 1, .int .i64 3, .int .i64 4, .int .i64 5, .int .i64 7, .int .i64 8, .int .i64 9, .int .i64 10, .int .i64 11, .int .i64 12, .int .i64 13, .int .i64 14, .int .i64 17, .int .i64 18] 3))).trans (turn_alloc _ (.cells #[.int .i64 17, .int .i64 0, .int .i64 0, .int .i64 0] 162))
    have kr1' := (kr1.alloc (.cells #[.int .i64 2, .int .i64 6, .int .i64 15, .int .i64 16, .int .i64 19, .int .i64 20, .int .i64 21, .int .i64 22, .int .i64 23, .int .i64 24, .int .i64 25, .int .i64 1, .int .i64 3, .int .i64 4, .int .i64 5, .int .i64 7, .int .i64 8, .int .i64 9, .int .i64 10, .int .i64 11, .int .i64 12, .int .i64 13, .int .i64 14, .int .i64 17, .int .i64 18] 3)).alloc (.cells #[.int .i64 17, .int .i64 0, .int .i64 0, .int .i64 0] 162)
    have hlt1 := kr1.lt
    clear kr1 T1 h1
    simp only [World.size_alloc] at kop
    go_wp2_with fail
    refine (next_is r a n c zs (k + 1) v2 _ h1' E2).mono ?_
    rintro e w2 ⟨rfl, h2, t2⟩
    have kr2 := turn_blk t2 kr1' (by omega)
    have ko2 := turn_blk t2 kop (by omega)
    have T2 := T1'.trans t2
    have hz2 := t2.size
    simp only [World.size_alloc] at hz2
    clear t2 kr1' T1' h1' kop hop
    obtain ⟨q1, q2, q3, q4, q5⟩ := ko2.four'
    obtain ⟨p1, p2, p3, p4, p5⟩ := kr2.four'
    go_wp2_with fail
    refine (l3Uses_any 17 _).mono ?_
    rintro e wx ⟨rfl, rfl⟩
    have H : Is w w2 r a n c zs (k + 1 + 1) (w1.heap.size + 1) 17 0 0 0 := ⟨kr2, ko2, h2, T2, by omega, hrw, hcode⟩
    have HH := hide H
    clear H kr2 ko2 h2 T2 hcode
    have hbig : w.heap.size < w1.heap.size + 1 := by omega
    have hlt2 : w1.heap.size + 1 < w2.heap.size := by omega
    have hlt3 : w.heap.size < w2.heap.size := by omega
    rw [show us 17 = 7 from by decide]
    have hA := HAT.out (w2.setCell ⟨w1.heap.size + 1, 1, none⟩ (.int .i64 (v2 % 4)))
    simp only [size_setCell] at hA
    have N := (((HH.out.set1 (v2 % 4)).set2 A).more (.cells #[.int .i64 7, .int .i64 6, .int .i64 0, .int .i64 1, .int .i64 2, .int .i64 7, .int .i64 6, .int .i64 3] 3))
    go_wp2_with fail
    refine (next_is r a n c zs (k + 1 + 1) v3 _ N.rd E3).mono ?_
    rintro e w3 ⟨rfl, hr3, t3⟩
    have N3 := N.next hr3 t3
    have hz3 := t3.size
    try simp only [World.size_alloc, size_setCell] at hz3
    clear N hr3 t3 q1 q2 q3 q4 q5 p1 p2 p3 p4 p5 HH hA
    obtain ⟨q1, q2, q3, q4, q5⟩ := N3.ins.four'
    obtain ⟨p1, p2, p3, p4, p5⟩ := N3.res.four'
    have HN := hide N3
    clear N3
    have hA6 := HCD.out
    have hA6 : (A == 6) = false := by simpa using hA6
    go_wp2
    (with_reducible refine (HN.out.set3 (v3 % 16)).done _ Try.results157 _ ?_ ?_); rfl; omega
end Go.Proofs.Ytngdgogjlpjjpac
namespace Go.Proofs.Ytngdgogjlpjjpac
open Go.RowKit
set_option linter.unusedVariables false
theorem wrap_small (x : Int) (h0 : -4611686018427387904 ≤ x) (h1 : x ≤ 4611686018427387903) : IntKind.i64.wrap x = x := by
  unfold IntKind.wrap
  simp [IntKind.bits, IntKind.signed]
  omega
end Go.Proofs.Ytngdgogjlpjjpac
namespace Go.Proofs.Ytngdgogjlpjjpac
open Go.RowKit
set_option linter.unusedVariables false
set_option linter.unusedSimpArgs false
set_option maxRecDepth 100000
set_option maxHeartbeats 1000000 in
theorem sameNums_any (a a' : Option Addr) (n cap n' cap' : Nat) (xs ys : List Int) (w : World) (h : IS w a n cap xs) (h' : IS w a' n' cap' ys) :
    Calls Try.prog 92 #[.slice a n cap, .slice a' n' cap'] w fun e w' => e = .returned (.bool (decide (xs = ys))) ∧ Below w.heap.size w w' := by
  obtain ⟨hl, hmx, hr, hc, _⟩ := h
  obtain ⟨hl', hmx', hr', hc', _⟩ := h'
  unfold maxLen at hmx hmx'
  by_cases hn : n = n'
  · subst hn
    have hne : ((n : Int) != (n : Int)) = false := by simp
    by_cases hn0 : n = 0
    · subst hn0
      obtain rfl : xs = [] := List.eq_nil_of_length_eq_zero hl
      obtain rfl : ys = [] := List.eq_nil_of_length_eq_zero hl'
      clear hc hc'
      go_enter Try.func92, Try.ntmps92
      go_wp2
      go_loop [5] (fun i => i = .int .i64 0) (fun _ => 0)
      case atStart => rfl
      case round =>
        obtain rfl := hrel
        go_wp2
        go_ret
        exact ⟨rfl, Below.refl _ _⟩
    · obtain ⟨b, off, rfl, hd⟩ := hc hn0
      obtain ⟨b', off', rfl, hd'⟩ := hc' hn0
      clear hc hc'
      go_enter Try.func92, Try.ntmps92
      go_wp2
      go_loopw [5] (fun i wr => ∃ k : Nat, k ≤ n ∧ i = .int .i64 k ∧ xs.take k = ys.take k ∧ Below w.heap.size w wr) (fun i _ => n - (intOf i).toNat)
      case atStart => exact ⟨0, Nat.zero_le _, rfl, by simp, Below.refl _ _⟩
      case round =>
        obtain ⟨k, hk, rfl, hT, hB⟩ := hrel
        by_cases hlt : k < n
        · have hlt' : (k : Int) < (n : Int) := by omega
          have hck : wr.cell? ⟨b, off + k, none⟩ = some (.int .i64 (xs.getD k 0)) := (hB.cell (World.block_lt_of_cell? w _ (hd k hlt))).trans (hd k hlt)
          have hck' : wr.cell? ⟨b', off' + k, none⟩ = some (.int .i64 (ys.getD k 0)) := (hB.cell (World.block_lt_of_cell? w _ (hd' k hlt))).trans (hd' k hlt)
          by_cases he : xs.getD k 0 = ys.getD k 0
          · have hS := take_eq_succI xs ys k hT (by omega) (by omega) he
            have HS : Hid (xs.take (k + 1) = ys.take (k + 1)) := hS
            rw [he] at hck
            clear hS hT hd hd' he
            generalize ys.getD k 0 = z at *
            have hz : (z != z) = false := by simp
            go_wp2
            go_quiet (fail)
            go_wp2
            go_roundw
            case rel => exact ⟨k + 1, by omega, by go_num, HS.out, below_drewN hB _⟩
            case measure => simp [intOf]; omega
          · have hf : Hid (decide (xs = ys) = false) := by
              show _ = _
              simp
              intro e
              exact he (by rw [e])
            have hz : (xs.getD k 0 != ys.getD k 0) = true := by simpa using he
            clear hT hd hd' he
            generalize ys.getD k 0 = z at *
            generalize xs.getD k 0 = z' at *
            go_wp2
            go_quiet (fail)
            go_wp2
            go_ret
            exact ⟨ret_bool hf.out.symm, below_drewN hB _⟩
        · have hf : Hid (decide (xs = ys) = true) := by
            show _ = _
            simp
            rw [List.take_of_length_le (by omega), List.take_of_length_le (by omega)] at hT
            exact hT
          clear hT hd hd'
          go_wp2
          go_ret
          exact ⟨ret_bool hf.out.symm, hB⟩
  · have hf : Hid (decide (xs = ys) = false) := by
      show _ = _
      simp
      intro e
      rw [e] at hl
      omega
    have hne : ((n : Int) != (n' : Int)) = true := by simp; omega
    clear hc hc'
    go_enter Try.func92, Try.ntmps92
    go_wp2
    go_ret
    exact ⟨ret_bool hf.out.symm, Below.refl _ _⟩
theorem take_eq_succ7 (xs ys : List Int) (k : Nat) (h : xs.take k = ys.take k) (hx : k < xs.length) (hy : k < ys.length) (he : xs.getD k 0 = ys.getD k 0) : xs.take (k + 1) = ys.take (k + 1) := by
  rw [List.take_succ_eq_append_getElem hx, List.take_succ_eq_append_getElem hy, h]
  simp [List.getD_eq_getElem?_getD, hx, hy] at he
  rw [he]
set_option maxHeartbeats 1000000 in
theorem l7Bytes_any (a a' : Option Addr) (n cap n' cap' : Nat) (xs ys : List Int) (w : World) (h : BS w a n cap xs) (h' : BS w a' n' cap' ys) :
    Calls Try.prog 49 #[.slice a n cap, .slice a' n' cap'] w fun e w' => e = .returned (.bool (decide (xs = ys))) ∧ Below w.heap.size w w' := by
  obtain ⟨hl, hmx, hr, hc, _⟩ := h
  obtain ⟨hl', hmx', hr', hc', _⟩ := h'
  unfold maxLen at hmx hmx'
  by_cases hn : n = n'
  · subst hn
    have hne : ((n : Int) != (n : Int)) = false := by simp
    by_cases hn0 : n = 0
    · subst hn0
      obtain rfl : xs = [] := List.eq_nil_of_length_eq_zero hl
      obtain rfl : ys = [] := List.eq_nil_of_length_eq_zero hl'
      clear hc hc'
      go_enter Try.func49, Try.ntmps49
      go_wp2
      go_loop [5] (fun i => i = .int .i64 0) (fun _ => 0)
      case atStart => rfl
      case round =>
        obtain rfl := hrel
        go_wp2
        go_ret
        exact ⟨rfl, Below.refl _ _⟩
    · obtain ⟨b, off, rfl, hd⟩ := hc hn0
      obtain ⟨b', off', rfl, hd'⟩ := hc' hn0
      clear hc hc'
      go_enter Try.func49, Try.ntmps49
      go_wp2
      go_loopw [5] (fun i wr => ∃ k : Nat, k ≤ n ∧ i = .int .i64 k ∧ xs.take k = ys.take k ∧ Below w.heap.size w wr) (fun i _ => n - (intOf i).toNat)
      case atStart => exact ⟨0, Nat.zero_le _, rfl, by simp, Below.refl _ _⟩
      case round =>
        obtain ⟨k, hk, rfl, hT, hB⟩ := hrel
        by_cases hlt : k < n
        · have hlt' : (k : Int) < (n : Int) := by omega
          have hck : wr.cell? ⟨b, off + k, none⟩ = some (.int .u8 (xs.getD k 0)) := (hB.cell (World.block_lt_of_cell? w _ (hd k hlt))).trans (hd k hlt)
          have hck' : wr.cell? ⟨b', off' + k, none⟩ = some (.int .u8 (ys.getD k 0)) := (hB.cell (World.block_lt_of_cell? w _ (hd' k hlt))).trans (hd' k hlt)
          by_cases he : xs.getD k 0 = ys.getD k 0
          · have hS := take_eq_succ7 xs ys k hT (by omega) (by omega) he
            have HS : Hid (xs.take (k + 1) = ys.take (k + 1)) := hS
            rw [he] at hck
            clear hS hT hd hd' he
            generalize ys.getD k 0 = z at *
            have hz : (z != z) = false := by simp
            go_wp2
            go_quiet (fail)
            go_wp2
            go_roundw
            case rel => exact ⟨k + 1, by omega, by go_num, HS.out, below_drewN hB _⟩
            case measure => simp [intOf]; omega
          · have hf : Hid (decide (xs = ys) = false) := by
              show _ = _
              simp
              intro e
              exact he (by rw [e])
            have hz : (xs.getD k 0 != ys.getD k 0) = true := by simpa using he
            clear hT hd hd' he
            generalize ys.getD k 0 = z at *
            generalize xs.getD k 0 = z' at *
            go_wp2
            go_quiet (fail)
            go_wp2
            go_ret
            exact ⟨ret_bool hf.out.symm, below_drewN hB _⟩
        · have hf : Hid (decide (xs = ys) = true) := by
            show _ = _
            simp
            rw [List.take_of_length_le (by omega), List.take_of_length_le (by omega)] at hT
            exact hT
          clear hT hd hd'
          go_wp2
          go_ret
          exact ⟨ret_bool hf.out.symm, hB⟩
  · have hf : Hid (decide (xs = ys) = false) := by
      show _ = _
      simp
      intro e
      rw [e] at hl
      omega
    have hne : ((n : Int) != (n' : Int)) = true := by simp; omega
    clear hc hc'
    go_enter Try.func49, Try.ntmps49
    go_wp2
    go_ret
    exact ⟨ret_bool hf.out.symm, Below.refl _ _⟩
end Go.Proofs.Ytngdgogjlpjjpac
