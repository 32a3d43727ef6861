import Derived.Test.YtngdgogjlpjjpacP01
import Derived.Test.YtngdgogjlpjjpacP05
import Derived.Test.YtngdgogjlpjjpacP04
namespace Go.Proofs.Ytngdgogjlpjjpac
open Go.RowKit
set_option linter.unusedVariables false
set_option linter.unusedSimpArgs false
set_option maxHeartbeats 2000000 in
theorem l3Ins_u3 (zs : List Int) (k : Nat) (hz : ∀ j, 0 ≤ zs.getD j 0 ∧ zs.getD j 0 ≤ 255) (v1 : Int) (E1 : Hid (zs.getD k 0 = v1)) (z0 : 0 ≤ v1) (z0' : v1 ≤ 255) (op : Int) (ho1 : 1 ≤ op) (ho2 : op ≤ 25) (hu : us op = 3) (HOP : Hid (∀ W : World, (W.alloc (.cells #[.int .i64 2, .int .i64 6, .int .i64 15, .int .i64 16, .int .i64 19, .int .i64 20, .int .i64 21, .int .i64 22, .int .i64 23, .int .i64 24, .int .i64 25, .int .i64 1, .int .i64 3, .int .i64 4, .int .i64 5, .int .i64 7, .int .i64 8, .int .i64 9, .int .i64 10, .int .i64 11, .int .i64 12, .int .i64 13, .int .i64 14, .int .i64 17, .int .i64 18] 3)).cell? ⟨W.heap.size, (v1 % 25).toNat, none⟩ = some (.int .i64 op))) :
    ∃ (d x i : Int) (k' : Nat), (-1 ≤ (op : Int) ∧ (op : Int) ≤ 64 ∧ -1 ≤ d ∧ d ≤ 10 ∧ -1 ≤ x ∧ x ≤ 10 ∧ -1 ≤ i ∧ i ≤ 65536) ∧ ∀ (r : Nat) (a : Option Addr) (n c : Nat) (w : World) (h : Rdr w r a n c zs k) (hcode : n ≠ 0 → ∀ b off, a = some ⟨b, off, none⟩ → b < w.heap.size), Calls Try.prog 157 #[.pointer (some ⟨r, 0, none⟩)] w (InsDr w r a n c zs op d x i k') := by
  obtain ⟨v2, E2, z1, z1'⟩ := draw_of hz (k + 1)
  obtain ⟨v3, E3, z2, z2'⟩ := draw_of hz (k + 1 + 1)
  clear hz
  obtain ⟨A, hA0, hA1, hAT⟩ := aTab_at (v2 / 4 % 8).toNat (by omega)
  have HAT := hide hAT
  clear hAT
  refine ⟨v2 % 4, A, 0, k + 1 + 1, by omega, fun r a n c w h hcode => ?_⟩
  have hrw := h.blk.lt
  have T0 : Turn (fun j => j = r) w (w.alloc (.cells #[.int .i64 0, .int .i64 0, .int .i64 0, .int .i64 0] 162)) := turn_alloc w _
  have kr0 := Blk.new w #[.int .i64 0, .int .i64 0, .int .i64 0, .int .i64 0] 162
  have h0 := rdr_below h ((Below.refl w.heap.size w).alloc (Nat.le_refl _) (.cells #[.int .i64 0, .int .i64 0, .int .i64 0, .int .i64 0] 162))
  clear h
  go_enter Try.func157, Try.ntmps157
  go_wp2_with fail
  refine (next_is r a n c zs k v1 _ h0 E1).mono ?_
  rintro e w1 ⟨rfl, h1, t1⟩
  have kr1 := turn_blk t1 kr0 (by omega)
  have T1 := T0.trans t1
  clear t1 kr0 T0 h0
  have hop := HOP.out w1
  have kop := Blk.new (w1.alloc (.cells #[.int .i64 2, .int .i64 6, .int .i64 15, .int .i64 16, .int .i64 19, .int .i64 20, .int .i64 21, .int .i64 22, .int .i64 23, .int .i64 24, .int .i64 25, .int .i64 1, .int .i64 3, .int .i64 4, .int .i64 5, .int .i64 7, .int .i64 8, .int .i64 9, .int .i64 10, .int .i64 11, .int .i64 12, .int .i64 13, .int .i64 14, .int .i64 17, .int .i64 18] 3)) #[.int .i64 op, .int .i64 0, .int .i64 0, .int .i64 0] 162
  have h1' := rdr_below (rdr_below h1 ((Below.refl w1.heap.size w1).alloc (Nat.le_refl _) (.cells #[.int .i64 2, .int .i64 6, .int .i64 15, .int .i64 16, .int .i64 19, .int .i64 20, .int .i64 21, .int .i64 22, .int .i64 23, .int .i64 24, .int .i64 25, .int .i64 1, .int .i64 3, .int .i64 4, .int .i64 5, .int .i64 7, .int .i64 8, .int .i64 9, .int .i64 10, .int .i64 11, .int .i64 12, .int .i64 13, .int .i64 14, .int .i64 17, .int .i64 18] 3))) ((Below.refl _ _).alloc (Nat.le_refl _) (.cells #[.int .i64 op, .int .i64 0, .int .i64 0, .int .i64 0] 162))
  have T1' := (T1.trans (turn_alloc w1 (.cells #[.int .i64 2, .int .i64 6, .int .i64 15, .int .i64 16, .int .i64 19, .int .i64 20, .int .i64 21, .int .i64 22, .int .i64 23, .int .i64 24, .int .i64 25, .int .i64 1, .int .i64 3, .int .i64 4, .int .i64 5, .int .i64 7, .int .i64 8, .int .i64 9, .int .i64 10, .int .i64 11, .int .i64 12, .int .i64 13, .int .i64 14, .int .i64 17, .int .i64 18] 3))).trans (turn_alloc _ (.cells #[.int .i64 op, .int .i64 0, .int .i64 0, .int .i64 0] 162))
  have kr1' := (kr1.alloc (.cells #[.int .i64 2, .int .i64 6, .int .i64 15, .int .i64 16, .int .i64 19, .int .i64 20, .int .i64 21, .int .i64 22, .int .i64 23, .int .i64 24, .int .i64 25, .int .i64 1, .int .i64 3, .int .i64 4, .int .i64 5, .int .i64 7, .int .i64 8, .int .i64 9, .int .i64 10, .int .i64 11, .int .i64 12, .int .i64 13, .int .i64 14, .int .i64 17, .int .i64 18] 3)).alloc (.cells #[.int .i64 op, .int .i64 0, .int .i64 0, .int .i64 0] 162)
  have hlt1 := kr1.lt
  clear kr1 T1 h1
  simp only [World.size_alloc] at kop
  go_wp2_with fail
  refine (next_is r a n c zs (k + 1) v2 _ h1' E2).mono ?_
  rintro e w2 ⟨rfl, h2, t2⟩
  have kr2 := turn_blk t2 kr1' (by omega)
  have ko2 := turn_blk t2 kop (by omega)
  have T2 := T1'.trans t2
  have hz2 := t2.size
  simp only [World.size_alloc] at hz2
  clear t2 kr1' T1' h1' kop hop
  obtain ⟨q1, q2, q3, q4, q5⟩ := ko2.four'
  obtain ⟨p1, p2, p3, p4, p5⟩ := kr2.four'
  go_wp2_with fail
  refine (l3Uses_any op _).mono ?_
  rintro e wx ⟨rfl, rfl⟩
  have H : Is w w2 r a n c zs (k + 1 + 1) (w1.heap.size + 1) op 0 0 0 := ⟨kr2, ko2, h2, T2, by omega, hrw, hcode⟩
  have HH := hide H
  clear H kr2 ko2 h2 T2 hcode
  have hbig : w.heap.size < w1.heap.size + 1 := by omega
  have hlt2 : w1.heap.size + 1 < w2.heap.size := by omega
  have hlt3 : w.heap.size < w2.heap.size := by omega
  rw [hu]
  clear hu
  have hA := HAT.out (w2.setCell ⟨w1.heap.size + 1, 1, none⟩ (.int .i64 (v2 % 4)))
  simp only [size_setCell] at hA
  go_wp2
  (with_reducible refine ((HH.out.set1 (v2 % 4)).set2 A).doneA _ Try.results157 _ _ ?_ ?_); rfl; omega
set_option maxHeartbeats 2000000 in
theorem l3Ins_u0 (zs : List Int) (k : Nat) (hz : ∀ j, 0 ≤ zs.getD j 0 ∧ zs.getD j 0 ≤ 255) (v1 : Int) (E1 : Hid (zs.getD k 0 = v1)) (z0 : 0 ≤ v1) (z0' : v1 ≤ 255) (op : Int) (ho1 : 1 ≤ op) (ho2 : op ≤ 25) (hu : us op = 0) (HOP : Hid (∀ W : World, (W.alloc (.cells #[.int .i64 2, .int .i64 6, .int .i64 15, .int .i64 16, .int .i64 19, .int .i64 20, .int .i64 21, .int .i64 22, .int .i64 23, .int .i64 24, .int .i64 25, .int .i64 1, .int .i64 3, .int .i64 4, .int .i64 5, .int .i64 7, .int .i64 8, .int .i64 9, .int .i64 10, .int .i64 11, .int .i64 12, .int .i64 13, .int .i64 14, .int .i64 17, .int .i64 18] 3)).cell? ⟨W.heap.size, (v1 % 25).toNat, none⟩ = some (.int .i64 op))) :
    ∃ (d x i : Int) (k' : Nat), (-1 ≤ (op : Int) ∧ (op : Int) ≤ 64 ∧ -1 ≤ d ∧ d ≤ 10 ∧ -1 ≤ x ∧ x ≤ 10 ∧ -1 ≤ i ∧ i ≤ 65536) ∧ ∀ (r : Nat) (a : Option Addr) (n c : Nat) (w : World) (h : Rdr w r a n c zs k) (hcode : n ≠ 0 → ∀ b off, a = some ⟨b, off, none⟩ → b < w.heap.size), Calls Try.prog 157 #[.pointer (some ⟨r, 0, none⟩)] w (InsDr w r a n c zs op d x i k') := by
  obtain ⟨v2, E2, z1, z1'⟩ := draw_of hz (k + 1)
  obtain ⟨v3, E3, z2, z2'⟩ := draw_of hz (k + 1 + 1)
  clear hz
  refine ⟨0, 0, 0, k + 1 + 1, by omega, fun r a n c w h hcode => ?_⟩
  have hrw := h.blk.lt
  have T0 : Turn (fun j => j = r) w (w.alloc (.cells #[.int .i64 0, .int .i64 0, .int .i64 0, .int .i64 0] 162)) := turn_alloc w _
  have kr0 := Blk.new w #[.int .i64 0, .int .i64 0, .int .i64 0, .int .i64 0] 162
  have h0 := rdr_below h ((Below.refl w.heap.size w).alloc (Nat.le_refl _) (.cells #[.int .i64 0, .int .i64 0, .int .i64 0, .int .i64 0] 162))
  clear h
  go_enter Try.func157, Try.ntmps157
  go_wp2_with fail
  refine (next_is r a n c zs k v1 _ h0 E1).mono ?_
  rintro e w1 ⟨rfl, h1, t1⟩
  have kr1 := turn_blk t1 kr0 (by omega)
  have T1 := T0.trans t1
  clear t1 kr0 T0 h0
  have hop := HOP.out w1
  have kop := Blk.new (w1.alloc (.cells #[.int .i64 2, .int .i64 6, .int .i64 15, .int .i64 16, .int .i64 19, .int .i64 20, .int .i64 21, .int .i64 22, .int .i64 23, .int .i64 24, .int .i64 25, .int .i64 1, .int .i64 3, .int .i64 4, .int .i64 5, .int .i64 7, .int .i64 8, .int .i64 9, .int .i64 10, .int .i64 11, .int .i64 12, .int .i64 13, .int .i64 14, .int .i64 17, .int .i64 18] 3)) #[.int .i64 op, .int .i64 0, .int .i64 0, .int .i64 0] 162
  have h1' := rdr_below (rdr_below h1 ((Below.refl w1.heap.size w1).alloc (Nat.le_refl _) (.cells #[.int .i64 2, .int .i64 6, .int .i64 15, .int .i64 16, .int .i64 19, .int .i64 20, .int .i64 21, .int .i64 22, .int .i64 23, .int .i64 24, .int .i64 25, .int .i64 1, .int .i64 3, .int .i64 4, .int .i64 5, .int .i64 7, .int .i64 8, .int .i64 9, .int .i64 10, .int .i64 11, .int .i64 12, .int .i64 13, .int .i64 14, .int .i64 17, .int .i64 18] 3))) ((Below.refl _ _).alloc (Nat.le_refl _) (.cells #[.int .i64 op, .int .i64 0, .int .i64 0, .int .i64 0] 162))
  have T1' := (T1.trans (turn_alloc w1 (.cells #[.int .i64 2, .int .i64 6, .int .i64 15, .int .i64 16, .int .i64 19, .int .i64 20, .int .i64 21, .int .i64 22, .int .i64 23, .int .i64 24, .int .i64 25, .int .i64 1, .int .i64 3, .int .i64 4, .int .i64 5, .int .i64 7, .int .i64 8, .int .i64 9, .int .i64 10, .int .i64 11, .int .i64 12, .int .i64 13, .int .i64 14, .int .i64 17, .int .i64 18] 3))).trans (turn_alloc _ (.cells #[.int .i64 op, .int .i64 0, .int .i64 0, .int .i64 0] 162))
  have kr1' := (kr1.alloc (.cells #[.int .i64 2, .int .i64 6, .int .i64 15, .int .i64 16, .int .i64 19, .int .i64 20, .int .i64 21, .int .i64 22, .int .i64 23, .int .i64 24, .int .i64 25, .int .i64 1, .int .i64 3, .int .i64 4, .int .i64 5, .int .i64 7, .int .i64 8, .int .i64 9, .int .i64 10, .int .i64 11, .int .i64 12, .int .i64 13, .int .i64 14, .int .i64 17, .int .i64 18] 3)).alloc (.cells #[.int .i64 op, .int .i64 0, .int .i64 0, .int .i64 0] 162)
  have hlt1 := kr1.lt
  clear kr1 T1 h1
  simp only [World.size_alloc] at kop
  go_wp2_with fail
  refine (next_is r a n c zs (k + 1) v2 _ h1' E2).mono ?_
  rintro e w2 ⟨rfl, h2, t2⟩
  have kr2 := turn_blk t2 kr1' (by omega)
  have ko2 := turn_blk t2 kop (by omega)
  have T2 := T1'.trans t2
  have hz2 := t2.size
  simp only [World.size_alloc] at hz2
  clear t2 kr1' T1' h1' kop hop
  obtain ⟨q1, q2, q3, q4, q5⟩ := ko2.four'
  obtain ⟨p1, p2, p3, p4, p5⟩ := kr2.four'
  go_wp2_with fail
  refine (l3Uses_any op _).mono ?_
  rintro e wx ⟨rfl, rfl⟩
  have H : Is w w2 r a n c zs (k + 1 + 1) (w1.heap.size + 1) op 0 0 0 := ⟨kr2, ko2, h2, T2, by omega, hrw, hcode⟩
  have HH := hide H
  clear H kr2 ko2 h2 T2 hcode
  have hbig : w.heap.size < w1.heap.size + 1 := by omega
  have hlt2 : w1.heap.size + 1 < w2.heap.size := by omega
  have hlt3 : w.heap.size < w2.heap.size := by omega
  rw [hu]
  clear hu
  go_wp2
  (with_reducible refine HH.out.done _ Try.results157 _ ?_ ?_); rfl; omega
set_option maxHeartbeats 2000000 in
theorem l3Ins_2 (zs : List Int) (k : Nat) (hz : ∀ j, 0 ≤ zs.getD j 0 ∧ zs.getD j 0 ≤ 255) (v1 : Int) (E1 : Hid (zs.getD k 0 = v1)) (z0 : 0 ≤ v1) (z0' : v1 ≤ 255) (HOP : Hid (∀ W : World, (W.alloc (.cells #[.int .i64 2, .int .i64 6, .int .i64 15, .int .i64 16, .int .i64 19, .int .i64 20, .int .i64 21, .int .i64 22, .int .i64 23, .int .i64 24, .int .i64 25, .int .i64 1, .int .i64 3, .int .i64 4, .int .i64 5, .int .i64 7, .int .i64 8, .int .i64 9, .int .i64 10, .int .i64 11, .int .i64 12, .int .i64 13, .int .i64 14, .int .i64 17, .int .i64 18] 3)).cell? ⟨W.heap.size, (v1 % 25).toNat, none⟩ = some (.int .i64 2))) :
    ∃ (d x i : Int) (k' : Nat), (-1 ≤ (2 : Int) ∧ (2 : Int) ≤ 64 ∧ -1 ≤ d ∧ d ≤ 10 ∧ -1 ≤ x ∧ x ≤ 10 ∧ -1 ≤ i ∧ i ≤ 65536) ∧ ∀ (r : Nat) (a : Option Addr) (n c : Nat) (w : World) (h : Rdr w r a n c zs k) (hcode : n ≠ 0 → ∀ b off, a = some ⟨b, off, none⟩ → b < w.heap.size), Calls Try.prog 157 #[.pointer (some ⟨r, 0, none⟩)] w (InsDr w r a n c zs 2 d x i k') := by
  obtain ⟨v2, E2, z1, z1'⟩ := draw_of hz (k + 1)
  obtain ⟨v3, E3, z2, z2'⟩ := draw_of hz (k + 1 + 1)
  clear hz
  refine ⟨v2 % 4, 0, v3 % 16, k + 1 + 1 + 1, by omega, fun r a n c w h hcode => ?_⟩
  have hrw := h.blk.lt
  have T0 : Turn (fun j => j = r) w (w.alloc (.cells #[.int .i64 0, .int .i64 0, .int .i64 0, .int .i64 0] 162)) := turn_alloc w _
  have kr0 := Blk.new w #[.int .i64 0, .int .i64 0, .int .i64 0, .int .i64 0] 162
  have h0 := rdr_below h ((Below.refl w.heap.size w).alloc (Nat.le_refl _) (.cells #[.int .i64 0, .int .i64 0, .int .i64 0, .int .i64 0] 162))
  clear h
  go_enter Try.func157, Try.ntmps157
  go_wp2_with fail
  refine (next_is r a n c zs k v1 _ h0 E1).mono ?_
  rintro e w1 ⟨rfl, h1, t1⟩
  have kr1 := turn_blk t1 kr0 (by omega)
  have T1 := T0.trans t1
  clear t1 kr0 T0 h0
  have hop := HOP.out w1
  have kop := Blk.new (w1.alloc (.cells #[.int .i64 2, .int .i64 6, .int .i64 15, .int .i64 16, .int .i64 19, .int .i64 20, .int .i64 21, .int .i64 22, .int .i64 23, .int .i64 24, .int .i64 25, .int .i64 1, .int .i64 3, .int .i64 4, .int .i64 5, .int .i64 7, .int .i64 8, .int .i64 9, .int .i64 10, .int .i64 11, .int .i64 12, .int .i64 13, .int .i64 14, .int .i64 17, .int .i64 18] 3)) #[.int .i64 2, .int .i64 0, .int .i64 0, .int .i64 0] 162
  have h1' := rdr_below (rdr_below h1 ((Below.refl w1.heap.size w1).alloc (Nat.le_refl _) (.cells #[.int .i64 2, .int .i64 6, .int .i64 15, .int .i64 16, .int .i64 19, .int .i64 20, .int .i64 21, .int .i64 22, .int .i64 23, .int .i64 24, .int .i64 25, .int .i64 1, .int .i64 3, .int .i64 4, .int .i64 5, .int .i64 7, .int .i64 8, .int .i64 9, .int .i64 10, .int .i64 11, .int .i64 12, .int .i64 13, .int .i64 14, .int .i64 17, .int .i64 18] 3))) ((Below.refl _ _).alloc (Nat.le_refl _) (.cells #[.int .i64 2, .int .i64 0, .int .i64 0, .int .i64 0] 162))
  have T1' := (T1.trans (turn_alloc w1 (.cells #[.int .i64 2, .int .i64 6, .int .i64 15, .int .i64 16, .int .i64 19, .int .i64 20, .int .i64 21, .int .i64 22, .int .i64 23, .int .i64 24, .int .i64 25, .int .i64 1, .int .i64 3, .int .i64 4, .int .i64 5, .int .i64 7, .int .i64 8, .int .i64 9, .int .i64 10, .int .i64 11, .int .i64 12, .int .i64 13, .int .i64 14, .int .i64 17, .int .i64 18] 3))).trans (turn_alloc _ (.cells #[.int .i64 2, .int .i64 0, .int .i64 0, .int .i64 0] 162))
  have kr1' := (kr1.alloc (.cells #[.int .i64 2, .int .i64 6, .int .i64 15, .int .i64 16, .int .i64 19, .int .i64 20, .int .i64 21, .int .i64 22, .int .i64 23, .int .i64 24, .int .i64 25, .int .i64 1, .int .i64 3, .int .i64 4, .int .i64 5, .int .i64 7, .int .i64 8, .int .i64 9, .int .i64 10, .int .i64 11, .int .i64 12, .int .i64 13, .int .i64 14, .int .i64 17, .int .i64 18] 3)).alloc (.cells #[.int .i64 2, .int .i64 0, .int .i64 0, .int .i64 0] 162)
  have hlt1 := kr1.lt
  clear kr1 T1 h1
  simp only [World.size_alloc] at kop
  go_wp2_with fail
  refine (next_is r a n c zs (k + 1) v2 _ h1' E2).mono ?_
  rintro e w2 ⟨rfl, h2, t2⟩
  have kr2 := turn_blk t2 kr1' (by omega)
  have ko2 := turn_blk t2 kop (by omega)
  have T2 := T1'.trans t2
  have hz2 := t2.size
  simp only [World.size_alloc] at hz2
  clear t2 kr1' T1' h1' kop hop
  obtain ⟨q1, q2, q3, q4, q5⟩ := ko2.four'
  obtain ⟨p1, p2, p3, p4, p5⟩ := kr2.four'
  go_wp2_with fail
  refine (l3Uses_any 2 _).mono ?_
  rintro e wx ⟨rfl, rfl⟩
  have H : Is w w2 r a n c zs (k + 1 + 1) (w1.heap.size + 1) 2 0 0 0 := ⟨kr2, ko2, h2, T2, by omega, hrw, hcode⟩
  have HH := hide H
  clear H kr2 ko2 h2 T2 hcode
  have hbig : w.heap.size < w1.heap.size + 1 := by omega
  have hlt2 : w1.heap.size + 1 < w2.heap.size := by omega
  have hlt3 : w.heap.size < w2.heap.size := by omega
  rw [show us 2 = 5 from by decide]
  have N := (HH.out.set1 (v2 % 4))
  go_wp2_with fail
  refine (next_is r a n c zs (k + 1 + 1) v3 _ N.rd E3).mono ?_
  rintro e w3 ⟨rfl, hr3, t3⟩
  have N3 := N.next hr3 t3
  have hz3 := t3.size
  try simp only [World.size_alloc, size_setCell] at hz3
  clear N hr3 t3 q1 q2 q3 q4 q5 p1 p2 p3 p4 p5 HH
  obtain ⟨q1, q2, q3, q4, q5⟩ := N3.ins.four'
  obtain ⟨p1, p2, p3, p4, p5⟩ := N3.res.four'
  have HN := hide N3
  clear N3
  go_wp2
  (with_reducible refine (HN.out.set3 (v3 % 16)).done _ Try.results157 _ ?_ ?_); rfl; omega
set_option maxHeartbeats 2000000 in
theorem l3Ins_3 (zs : List Int) (k : Nat) (hz : ∀ j, 0 ≤ zs.getD j 0 ∧ zs.getD j 0 ≤ 255) (v1 : Int) (E1 : Hid (zs.getD k 0 = v1)) (z0 : 0 ≤ v1) (z0' : v1 ≤ 255) (HOP : Hid (∀ W : World, (W.alloc (.cells #[.int .i64 2, .int .i64 6, .int .i64 15, .int .i64 16, .int .i64 19, .int .i64 20, .int .i64 21, .int .i64 22, .int .i64 23, .int .i64 24, .int .i64 25, .int .i64 1, .int .i64 3, .int .i64 4, .int .i64 5, .int .i64 7, .int .i64 8, .int .i64 9, .int .i64 10, .int .i64 11, .int .i64 12, .int .i64 13, .int .i64 14, .int .i64 17, .int .i64 18] 3)).cell? ⟨W.heap.size, (v1 % 25).toNat, none⟩ = some (.int .i64 3))) :
    ∃ (d x i : Int) (k' : Nat), (-1 ≤ (3 : Int) ∧ (3 : Int) ≤ 64 ∧ -1 ≤ d ∧ d ≤ 10 ∧ -1 ≤ x ∧ x ≤ 10 ∧ -1 ≤ i ∧ i ≤ 65536) ∧ ∀ (r : Nat) (a : Option Addr) (n c : Nat) (w : World) (h : Rdr w r a n c zs k) (hcode : n ≠ 0 → ∀ b off, a = some ⟨b, off, none⟩ → b < w.heap.size), Calls Try.prog 157 #[.pointer (some ⟨r, 0, none⟩)] w (InsDr w r a n c zs 3 d x i k') := by
  obtain ⟨v2, E2, z1, z1'⟩ := draw_of hz (k + 1)
  obtain ⟨v3, E3, z2, z2'⟩ := draw_of hz (k + 1 + 1)
  clear hz
  refine ⟨v2 % 4, 0, v3 % 16, k + 1 + 1 + 1, by omega, fun r a n c w h hcode => ?_⟩
  have hrw := h.blk.lt
  have T0 : Turn (fun j => j = r) w (w.alloc (.cells #[.int .i64 0, .int .i64 0, .int .i64 0, .int .i64 0] 162)) := turn_alloc w _
  have kr0 := Blk.new w #[.int .i64 0, .int .i64 0, .int .i64 0, .int .i64 0] 162
  have h0 := rdr_below h ((Below.refl w.heap.size w).alloc (Nat.le_refl _) (.cells #[.int .i64 0, .int .i64 0, .int .i64 0, .int .i64 0] 162))
  clear h
  go_enter Try.func157, Try.ntmps157
  go_wp2_with fail
  refine (next_is r a n c zs k v1 _ h0 E1).mono ?_
  rintro e w1 ⟨rfl, h1, t1⟩
  have kr1 := turn_blk t1 kr0 (by omega)
  have T1 := T0.trans t1
  clear t1 kr0 T0 h0
  have hop := HOP.out w1
  have kop := Blk.new (w1.alloc (.cells #[.int .i64 2, .int .i64 6, .int .i64 15, .int .i64 16, .int .i64 19, .int .i64 20, .int .i64 21, .int .i64 22, .int .i64 23, .int .i64 24, .int .i64 25, .int .i64 1, .int .i64 3, .int .i64 4, .int .i64 5, .int .i64 7, .int .i64 8, .int .i64 9, .int .i64 10, .int .i64 11, .int .i64 12, .int .i64 13, .int .i64 14, .int .i64 17, .int .i64 18] 3)) #[.int .i64 3, .int .i64 0, .int .i64 0, .int .i64 0] 162
  have h1' := rdr_below (rdr_below h1 ((Below.refl w1.heap.size w1).alloc (Nat.le_refl _) (.cells #[.int .i64 2, .int .i64 6, .int .i64 15, .int .i64 16, .int .i64 19, .int .i64 20, .int .i64 21, .int .i64 22, .int .i64 23, .int .i64 24, .int .i64 25, .int .i64 1, .int .i64 3, .int .i64 4, .int .i64 5, .int .i64 7, .int .i64 8, .int .i64 9, .int .i64 10, .int .i64 11, .int .i64 12, .int .i64 13, .int .i64 14, .int .i64 17, .int .i64 18] 3))) ((Below.refl _ _).alloc (Nat.le_refl _) (.cells #[.int .i64 3, .int .i64 0, .int .i64 0, .int .i64 0] 162))
  have T1' := (T1.trans (turn_alloc w1 (.cells #[.int .i64 2, .int .i64 6, .int .i64 15, .int .i64 16, .int .i64 19, .int .i64 20, .int .i64 21, .int .i64 22, .int .i64 23, .int .i64 24, .int .i64 25, .int .i64 1, .int .i64 3, .int .i64 4, .int .i64 5, .int .i64 7, .int .i64 8, .int .i64 9, .int .i64 10, .int .i64 11, .int .i64 12, .int .i64 13, .int .i64 14, .int .i64 17, .int .i64 18] 3))).trans (turn_alloc _ (.cells #[.int .i64 3, .int .i64 0, .int .i64 0, .int .i64 0] 162))
  have kr1' := (kr1.alloc (.cells #[.int .i64 2, .int .i64 6, .int .i64 15, .int .i64 16, .int .i64 19, .int .i64 20, .int .i64 21, .int .i64 22, .int .i64 23, .int .i64 24, .int .i64 25, .int .i64 1, .int .i64 3, .int .i64 4, .int .i64 5, .int .i64 7, .int .i64 8, .int .i64 9, .int .i64 10, .int .i64 11, .int .i64 12, .int .i64 13, .int .i64 14, .int .i64 17, .int .i64 18] 3)).alloc (.cells #[.int .i64 3, .int .i64 0, .int .i64 0, .int .i64 0] 162)
  have hlt1 := kr1.lt
  clear kr1 T1 h1
  simp only [World.size_alloc] at kop
  go_wp2_with fail
  refine (next_is r a n c zs (k + 1) v2 _ h1' E2).mono ?_
  rintro e w2 ⟨rfl, h2, t2⟩
  have kr2 := turn_blk t2 kr1' (by omega)
  have ko2 := turn_blk t2 kop (by omega)
  have T2 := T1'.trans t2
  have hz2 := t2.size
  simp only [World.size_alloc] at hz2
  clear t2 kr1' T1' h1' kop hop
  obtain ⟨q1, q2, q3, q4, q5⟩ := ko2.four'
  obtain ⟨p1, p2, p3, p4, p5⟩ := kr2.four'
  go_wp2_with fail
  refine (l3Uses_any 3 _).mono ?_
  rintro e wx ⟨rfl, rfl⟩
  have H : Is w w2 r a n c zs (k + 1 + 1) (w1.heap.size + 1) 3 0 0 0 := ⟨kr2, ko2, h2, T2, by omega, hrw, hcode⟩
  have HH := hide H
  clear H kr2 ko2 h2 T2 hcode
  have hbig : w.heap.size < w1.heap.size + 1 := by omega
  have hlt2 : w1.heap.size + 1 < w2.heap.size := by omega
  have hlt3 : w.heap.size < w2.heap.size := by omega
  rw [show us 3 = 5 from by decide]
  have N := (HH.out.set1 (v2 % 4))
  go_wp2_with fail
  refine (next_is r a n c zs (k + 1 + 1) v3 _ N.rd E3).mono ?_
  rintro e w3 ⟨rfl, hr3, t3⟩
  have N3 := N.next hr3 t3
  have hz3 := t3.size
  try simp only [World.size_alloc, size_setCell] at hz3
  clear N hr3 t3 q1 q2 q3 q4 q5 p1 p2 p3 p4 p5 HH
  obtain ⟨q1, q2, q3, q4, q5⟩ := N3.ins.four'
  obtain ⟨p1, p2, p3, p4, p5⟩ := N3.res.four'
  have HN := hide N3
  clear N3
  go_wp2
  (with_reducible refine (HN.out.set3 (v3 % 16)).done _ Try.results157 _ ?_ ?_); rfl; omega
set_option maxHeartbeats 2000000 in
theorem l3Ins_6 (zs : List Int) (k : Nat) (hz : ∀ j, 0 ≤ zs.getD j 0 ∧ zs.getD j 0 ≤ 255) (v1 : Int) (E1 : Hid (zs.getD k 0 = v1)) (z0 : 0 ≤ v1) (z0' : v1 ≤ 255) (HOP : Hid (∀ W : World, (W.alloc (.cells #[.int .i64 2, .int .i64 6, .int .i64 15, .int .i64 16, .int .i64 19, .int .i64 20, .int .i64 21, .int .i64 22, .int .i64 23, .int .i64 24, .int .i64 25, .int .i64 1, .int .i64 3, .int .i64 4, .int .i64 5, .int .i64 7, .int .i64 8, .int .i64 9, .int .i64 10, .int .i64 11, .int .i64 12, .int .i64 13, .int .i64 14, .int .i64 17, .int .i64 18] 3)).cell? ⟨W.heap.size, (v1 % 25).toNat, none⟩ = some (.int .i64 6))) :
    ∃ (d x i : Int) (k' : Nat), (-1 ≤ (6 : Int) ∧ (6 : Int) ≤ 64 ∧ -1 ≤ d ∧ d ≤ 10 ∧ -1 ≤ x ∧ x ≤ 10 ∧ -1 ≤ i ∧ i ≤ 65536) ∧ ∀ (r : Nat) (a : Option Addr) (n c : Nat) (w : World) (h : Rdr w r a n c zs k) (hcode : n ≠ 0 → ∀ b off, a = some ⟨b, off, none⟩ → b < w.heap.size), Calls Try.prog 157 #[.pointer (some ⟨r, 0, none⟩)] w (InsDr w r a n c zs 6 d x i k') := by
  obtain ⟨v2, E2, z1, z1'⟩ := draw_of hz (k + 1)
  obtain ⟨v3, E3, z2, z2'⟩ := draw_of hz (k + 1 + 1)
  clear hz
  obtain ⟨A, hA0, hA1, hAT⟩ := aTab_at (v2 / 4 % 8).toNat (by omega)
  have HAT := hide hAT
  clear hAT
  by_cases hA6 : A = 6
  · have HCD := hide hA6
    clear hA6
    refine ⟨v2 % 4, A, v3 % 16, k + 1 + 1 + 1, by omega, fun r a n c w h hcode => ?_⟩
    have hrw := h.blk.lt
    have T0 : Turn (fun j => j = r) w (w.alloc (.cells #[.int .i64 0, .int .i64 0, .int .i64 0, .int .i64 0] 162)) := turn_alloc w _
    have kr0 := Blk.new w #[.int .i64 0, .int .i64 0, .int .i64 0, .int .i64 0] 162
    have h0 := rdr_below h ((Below.refl w.heap.size w).alloc (Nat.le_refl _) (.cells #[.int .i64 0, .int .i64 0, .int .i64 0, .int .i64 0] 162))
    clear h
    go_enter Try.func157, Try.ntmps157
    go_wp2_with fail
    refine (next_is r a n c zs k v1 _ h0 E1).mono ?_
    rintro e w1 ⟨rfl, h1, t1⟩
    have kr1 := turn_blk t1 kr0 (by omega)
    have T1 := T0.trans t1
    clear t1 kr0 T0 h0
    have hop := HOP.out w1
    have kop := Blk.new (w1.alloc (.cells #[.int .i64 2, .int .i64 6, .int .i64 15, .int .i64 16, .int .i64 19, .int .i64 20, .int .i64 21, .int .i64 22, .int .i64 23, .int .i64 24, .int .i64 25, .int .i64 1, .int .i64 3, .int .i64 4, .int .i64 5, .int .i64 7, .int .i64 8, .int .i64 9, .int .i64 10, .int .i64 11, .int .i64 12, .int .i64 13, .int .i64 14, .int .i64 17, .int .i64 18] 3)) #[.int .i64 6, .int .i64 0, .int .i64 0, .int .i64 0] 162
    have h1' := rdr_below (rdr_below h1 ((Below.refl w1.heap.size w1).alloc (Nat.le_refl _) (.cells #[.int .i64 2, .int .i64 6, .int .i64 15, .int .i64 16, .int .i64 19, .int .i64 20, .int .i64 21, .int .i64 22, .int .i64 23, .int .i64 24, .int .i64 25, .int .i64 1, .int .i64 3, .int .i64 4, .int .i64 5, .int .i64 7, .int .i64 8, .int .i64 9, .int .i64 10, .int .i64 11, .int .i64 12, .int .i64 13, .int .i64 14, .int .i64 17, .int .i64 18] 3))) ((Below.refl _ _).alloc (Nat.le_refl _) (.cells #[.int .i64 6, .int .i64 0, .int .i64 0, .int .i64 0] 162))
    have T1' := (T1.trans (turn_alloc w1 (.cells #[.int .i64 2, .int .i64 6, .int .i64 15, .int .i64 16, .int .i64 19, .int .i64 20, .int .i64 21, .int .i64 22, .int .i64 23, .int .i64 24, .int .i64 25, .int .i64 1, .int .i64 3, .int .i64 4, .int .i64 5, .int .i64 7, .int .i64 8, .int .i64 9, .int .i64 10, .int .i64 11, .int .i64 12, .int .i64 13, .int .i64 14, .int .i64 17, .int .i64 18] 3))).trans (turn_alloc _ (.cells #[.int .i64 6, .int .i64 0, .int .i64 0, .int .i64 0] 162))
    have kr1' := (kr1.alloc (.cells #[.int .i64 2, .int .i64 6, .int .i64 15, .int .i64 16, .int .i64 19, .int .i64 20, .int .i64 21, .int .i64 22, .int .i64 23, .int .i64 24, .int .i64 25, .int .i64 1, .int .i64 3, .int .i64 4, .int .i64 5, .int .i64 7, .int .i64 8, .int .i64 9, .int .i64 10, .int .i64 11, .int .i64 12, .int .i64 13, .int .i64 14, .int .i64 17, .int .i64 18] 3)).alloc (.cells #[.int .i64 6, .int .i64 0, .int .i64 0, .int .i64 0] 162)
    have hlt1 := kr1.lt
    clear kr1 T1 h1
    simp only [World.size_alloc] at kop
    go_wp2_with fail
    refine (next_is r a n c zs (k + 1) v2 _ h1' E2).mono ?_
    rintro e w2 ⟨rfl, h2, t2⟩
    have kr2 := turn_blk t2 kr1' (by omega)
    have ko2 := turn_blk t2 kop (by omega)
    have T2 := T1'.trans t2
    have hz2 := t2.size
    simp only [World.size_alloc] at hz2
    clear t2 kr1' T1' h1' kop hop
    obtain ⟨q1, q2, q3, q4, q5⟩ := ko2.four'
    obtain ⟨p1, p2, p3, p4, p5⟩ := kr2.four'
    go_wp2_with fail
    refine (l3Uses_any 6 _).mono ?_
    rintro e wx ⟨rfl, rfl⟩
    have H : Is w w2 r a n c zs (k + 1 + 1) (w1.heap.size + 1) 6 0 0 0 := ⟨kr2, ko2, h2, T2, by omega, hrw, hcode⟩
    have HH := hide H
    clear H kr2 ko2 h2 T2 hcode
    have hbig : w.heap.size < w1.heap.size + 1 := by omega
    have hlt2 : w1.heap.size + 1 < w2.heap.size := by omega
    have hlt3 : w.heap.size < w2.heap.size := by omega
    rw [show us 6 = 7 from by decide]
    have hA := HAT.out (w2.setCell ⟨w1.heap.size + 1, 1, none⟩ (.int .i64 (v2 % 4)))
    simp only [size_setCell] at hA
    have N := (((HH.out.set1 (v2 % 4)).set2 A).more (.cells #[.int .i64 7, .int .i64 6, .int .i64 0, .int .i64 1, .int .i64 2, .int .i64 7, .int .i64 6, .int .i64 3] 3))
    go_wp2_with fail
    refine (next_is r a n c zs (k + 1 + 1) v3 _ N.rd E3).mono ?_
    rintro e w3 ⟨rfl, hr3, t3⟩
    have N3 := N.next hr3 t3
    have hz3 := t3.size
    try simp only [World.size_alloc, size_setCell] at hz3
    clear N hr3 t3 q1 q2 q3 q4 q5 p1 p2 p3 p4 p5 HH hA
    obtain ⟨q1, q2, q3, q4, q5⟩ := N3.ins.four'
    obtain ⟨p1, p2, p3, p4, p5⟩ := N3.res.four'
    have HN := hide N3
    clear N3
    have hA6 := HCD.out
    subst hA6
    go_wp2
    (with_reducible refine (HN.out.set3 (v3 % 16)).done _ Try.results157 _ ?_ ?_); rfl; omega
  · have HCD := hide hA6
    clear hA6
    refine ⟨v2 % 4, A, v3 % 16, k + 1 + 1 + 1, by omega, fun r a n c w h hcode => ?_⟩
    have hrw := h.blk.lt
    have T0 : Turn (fun j => j = r) w (w.alloc (.cells #[.int .i64 0, .int .i64 0, .int .i64 0, .int .i64 0] 162)) := turn_alloc w _
    have kr0 := Blk.new w #[.int .i64 0, .int .i64 0, .int .i64 0, .int .i64 0] 162
    have h0 := rdr_below h ((Below.refl w.heap.size w).alloc (Nat.le_refl _) (.cells #[.int .i64 0, .int .i64 0, .int .i64 0, .int .i64 0] 162))
    clear h
    go_enter Try.func157, Try.ntmps157
    go_wp2_with fail
    refine (next_is r a n c zs k v1 _ h0 E1).mono ?_
    rintro e w1 ⟨rfl, h1, t1⟩
    have kr1 := turn_blk t1 kr0 (by omega)
    have T1 := T0.trans t1
    clear t1 kr0 T0 h0
    have hop := HOP.out w1
    have kop := Blk.new (w1.alloc (.cells #[.int .i64 2, .int .i64 6, .int .i64 15, .int .i64 16, .int .i64 19, .int .i64 20, .int .i64 21, .int .i64 22, .int .i64 23, .int .i64 24, .int .i64 25, .int .i64 1, .int .i64 3, .int .i64 4, .int .i64 5, .int .i64 7, .int .i64 8, .int .i64 9, .int .i64 10, .int .i64 11, .int .i64 12, .int .i64 13, .int .i64 14, .int .i64 17, .int .i64 18] 3)) #[.int .i64 6, .int .i64 0, .int .i64 0, .int .i64 0] 162
    have h1' := rdr_below (rdr_below h1 ((Below.refl w1.heap.size w1).alloc (Nat.le_refl _) (.cells #[.int .i64 2, .int .i64 6, .int .i64 15, .int .i64 16, .int .i64 19, .int .i64 20, .int .i64 21, .int .i64 22, .int .i64 23, .int .i64 24, .int .i64 25, .int .i64 1, .int .i64 3, .int .i64 4, .int .i64 5, .int .i64 7, .int .i64 8, .int .i64 9, .int .i64 10, .int .i64 11, .int .i64 12, .int .i64 13, .int .i64 14, .int .i64 17, .int .i64 18] 3))) ((Below.refl _ _).alloc (Nat.le_refl _) (.cells #[.int .i64 6, .int .i64 0, .int .i64 0, .int .i64 0] 162))
    have T1' := (T1.trans (turn_alloc w1 (.cells #[.int .i64 2, .int .i64 6, .int .i64 15, .int .i64 16, .int .i64 19, .int .i64 20, .int .i64 21, .int .i64 22, .int .i64 23, .int .i64 24, .int .i64 25, .int .i64 1, .int .i64 3, .int .i64 4, .int .i64 5, .int .i64 7, .int .i64 8, .int .i64 9, .int .i64 10, .int .i64 11, .int .i64 12, .int .i64 13, .int .i64 14, .int .i64 17, .int .i64 18] 3))).trans (turn_alloc _ (.cells #[.int .i64 6, .int .i64 0, .int .i64 0, .int .i64 0] 162))
    have kr1' := (kr1.alloc (.cells #[.int .i64 2, .int .i64 6, .int .i64 15, .int .i64 16, .int .i64 19, .int .i64 20, .int .i64 21, .int .i64 22, .int .i64 23, .int .i64 24, .int .i64 25, .int .i64 1, .int .i64 3, .int .i64 4, .int .i64 5, .int .i64 7, .int .i64 8, .int .i64 9, .int .i64 10, .int .i64 11, .int .i64 12, .int .i64 13, .int .i64 14, .int .i64 17, .int .i64 18] 3)).alloc (.cells #[.int .i64 6, .int .i64 0, .int .i64 0, .int .i64 0] 162)
    have hlt1 := kr1.lt
    clear kr1 T1 h1
    simp only [World.size_alloc] at kop
    go_wp2_with fail
    refine (next_is r a n c zs (k + 1) v2 _ h1' E2).mono ?_
    rintro e w2 ⟨rfl, h2, t2⟩
    have kr2 := turn_blk t2 kr1' (by omega)
    have ko2 := turn_blk t2 kop (by omega)
    have T2 := T1'.trans t2
    have hz2 := t2.size
    simp only [World.size_alloc] at hz2
    clear t2 kr1' T1' h1' kop hop
    obtain ⟨q1, q2, q3, q4, q5⟩ := ko2.four'
    obtain ⟨p1, p2, p3, p4, p5⟩ := kr2.four'
    go_wp2_with fail
    refine (l3Uses_any 6 _).mono ?_
    rintro e wx ⟨rfl, rfl⟩
    have H : Is w w2 r a n c zs (k + 1 + 1) (w1.heap.size + 1) 6 0 0 0 := ⟨kr2, ko2, h2, T2, by omega, hrw, hcode⟩
    have HH := hide H
    clear H kr2 ko2 h2 T2 hcode
    have hbig : w.heap.size < w1.heap.size + 1 := by omega
    have hlt2 : w1.heap.size + 1 < w2.heap.size := by omega
    have hlt3 : w.heap.size < w2.heap.size := by omega
    rw [show us 6 = 7 from by decide]
    have hA := HAT.out (w2.setCell ⟨w1.heap.size + 1, 1, none⟩ (.int .i64 (v2 % 4)))
    simp only [size_setCell] at hA
    have N := (((HH.out.set1 (v2 % 4)).set2 A).more (.cells #[.int .i64 7, .int .i64 6, .int .i64 0, .int .i64 1, .int .i64 2, .int .i64 7, .int .i64 6, .int .i64 3] 3))
    go_wp2_with fail
    refine (next_is r a n c zs (k + 1 + 1) v3 _ N.rd E3).mono ?_
    rintro e w3 ⟨rfl, hr3, t3⟩
    have N3 := N.next hr3 t3
    have hz3 := t3.size
    try simp only [World.size_alloc, size_setCell] at hz3
    clear N hr3 t3 q1 q2 q3 q4 q5 p1 p2 p3 p4 p5 HH hA
    obtain ⟨q1, q2, q3, q4, q5⟩ := N3.ins.four'
    obtain ⟨p1, p2, p3, p4, p5⟩ := N3.res.four'
    have HN := hide N3
    clear N3
    have hA6 := HCD.out
    have hA6 : (A == 6) = false := by simpa using hA6
    go_wp2
    (with_reducible refine (HN.out.set3 (v3 % 16)).done _ Try.results157 _ ?_ ?_); rfl; omega
end Go.Proofs.Ytngdgogjlpjjpac
namespace Go.Proofs.Ytngdgogjlpjjpac
open Go.RowKit
set_option linter.unusedVariables false
def OB (w : World) (base : Nat) (v : Value) (zs : List Int) : Prop := w.ownsRow base 5 1 v zs.length (zs.map (Value.int .u8)) ∧ ∀ z ∈ zs, 0 ≤ z ∧ z ≤ 255
theorem bs_news {w : World} {b off n cap : Nat} {zs : List Int} (h : BS w (some ⟨b, off, none⟩) n cap zs) : ∀ j u, (zs.map (Value.int .u8))[j]? = some u → w.cell? ((⟨b, off, none⟩ : Addr).add j) = some u := by
  intro j u hj
  have hl := h.1
  have hjl : j < n := by
    by_cases e : j < n
    · exact e
    · rw [List.getElem?_eq_none (by simp; omega)] at hj; simp at hj
  rw [addr_add, h.at j hjl]
  rw [← hj]
  simp [List.getD_eq_getElem?_getD, show j < zs.length by omega]
theorem own_empty (w : World) : (w.alloc (.cells #[] 5)).ownsRow w.heap.size 5 1 (.slice (some ⟨w.heap.size, 0, none⟩) 0 0) 0 [] :=
  ⟨rfl, .inr ⟨w.heap.size, 0, #[], rfl, Nat.le_refl _, heap_alloc_new w _, Nat.le_refl _, Nat.zero_le _, rfl, rfl⟩⟩
theorem own_shape {w : World} {base n : Nat} {t : TypeId} {v : Value} {xs : List Value} (h : w.ownsRow base t 1 v n xs) : ∃ a cap, v = .slice a n cap := by
  obtain ⟨_, ⟨rfl, rfl⟩ | ⟨g, cap, cur, rfl, _⟩⟩ := h
  · exact ⟨_, _, rfl⟩
  · exact ⟨_, _, rfl⟩
theorem below_grown' {B : Nat} {a w w' : World} {k : Nat} (h : Below B a w) (hg : w.grownBy w' (some k)) (hB : B ≤ w.heap.size) (hk : B ≤ k) : Below B a w' := h.grown hg hB (fun j hj => by cases hj; exact hk)
set_option maxHeartbeats 1000000 in
theorem clone_any (b off n cap : Nat) (zs : List Int) (w : World) (h : BS w (some ⟨b, off, none⟩) n cap zs) (hn : n ≤ 1048576) :
    Calls Try.prog 109 #[.slice (some ⟨b, off, none⟩) n cap] w fun e w' => ∃ a cap', e = .returned (.slice a n cap') ∧ OB w' w.heap.size (.slice a n cap') zs ∧ Below w.heap.size w w' := by
  obtain ⟨i0, hi, hz0, hz1, hz2⟩ := info_parts info8
  have hl := h.1
  have h' := h.below ((Below.refl w.heap.size w).alloc (Nat.le_refl _) (.cells #[] 5))
  have hnews := hide (bs_news h')
  have hone := hide (ints_oneCell .u8 zs)
  have hown := hide (own_empty w)
  have hlen := hide (show (zs.map (Value.int .u8)).length = n * 1 by simp; omega)
  have hnil := fun (w : World) => Lib.run_eql_slice_nil (P := Try.prog) w 22 5 (some ⟨b, off, none⟩) n cap 0 0 Try.underlying22
  go_enter Try.func109, Try.ntmps109
  go_wp2_with (at_builtin; refine wpList_append_own _ rfl _ _ 22 rfl w.heap.size 5 i0 (.int .u8 0) 1 1 Try.underlying22 hi hz0 hz1 hz2 rfl (by decide) _ 0 [] rfl hown.out ⟨b, off, none⟩ n cap (zs.map (Value.int .u8)) rfl hlen.out hnews.out hone.out (by unfold maxLen; omega) (by omega) (by simp) ?_; intro v' w1 hown1 hgr1 _)
  simp only [Nat.zero_add, List.nil_append] at hown1
  have hex := own_shape hown1
  go_ret
  obtain ⟨a', cap', he⟩ := hex
  refine ⟨a', cap', by rw [← he]; rfl, ⟨?_, h.2.2.1⟩, ?_⟩
  · rw [hl, ← he]
    exact hown1
  · exact below_grown' ((Below.refl w.heap.size w).alloc (Nat.le_refl _) _) hgr1 (by simp) (Nat.le_refl _)
end Go.Proofs.Ytngdgogjlpjjpac
