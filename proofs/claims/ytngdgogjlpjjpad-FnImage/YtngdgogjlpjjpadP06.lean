import Derived.Lib.Bytealg
import Derived.Maps.OwnSet
import Derived.WideShapes
import Derived.Deep.AppendLies
import Derived.Deep.OwnRows
import Derived.Deep.RegionLaw
import Derived.Defers
import Derived.Laws.IdiomStrings
import Derived.Recover
import Derived.Test.YtngdgogjlpjjpadP00
import Derived.Test.YtngdgogjlpjjpadP01
import Derived.Test.YtngdgogjlpjjpadP02
import Derived.Test.YtngdgogjlpjjpadP05
namespace Go.Proofs.Ytngdgogjlpjjpad
open Go.RowKit
set_option linter.unusedVariables false
set_option linter.unusedSimpArgs false
set_option maxHeartbeats 2000000 in
theorem l3Ins_u3 (zs : List Int) (k : Nat) (hz : ∀ j, 0 ≤ zs.getD j 0 ∧ zs.getD j 0 ≤ 255) (v1 : Int) (E1 : Hid (zs.getD k 0 = v1)) (z0 : 0 ≤ v1) (z0' : v1 ≤ 255) (op : Int) (ho1 : 1 ≤ op) (ho2 : op ≤ 25) (hu : us op = 3) (HOP : Hid (∀ W : World, (W.alloc (.cells #[.int .i64 2, .int .i64 6, .int .i64 15, .int .i64 16, .int .i64 19, .int .i64 20, .int .i64 21, .int .i64 22, .int .i64 23, .int .i64 24, .int .i64 25, .int .i64 1, .int .i64 3, .int .i64 4, .int .i64 5, .int .i64 7, .int .i64 8, .int .i64 9, .int .i64 10, .int .i64 11, .int .i64 12, .int .i64 13, .int .i64 14, .int .i64 17, .int .i64 18] 3)).cell? ⟨W.heap.size, (v1 % 25).toNat, none⟩ = some (.int .i64 op))) :
    ∃ (d x i : Int) (k' : Nat), (-1 ≤ (op : Int) ∧ (op : Int) ≤ 64 ∧ -1 ≤ d ∧ d ≤ 10 ∧ -1 ≤ x ∧ x ≤ 10 ∧ -1 ≤ i ∧ i ≤ 65536) ∧ ∀ (r : Nat) (a : Option Addr) (n c : Nat) (w : World) (h : Rdr w r a n c zs k) (hcode : n ≠ 0 → ∀ b off, a = some ⟨b, off, none⟩ → b < w.heap.size), Calls Try.prog 116 #[.pointer (some ⟨r, 0, none⟩)] w (InsDr w r a n c zs op d x i k') := by
  obtain ⟨v2, E2, z1, z1'⟩ := draw_of hz (k + 1)
  obtain ⟨v3, E3, z2, z2'⟩ := draw_of hz (k + 1 + 1)
  clear hz
  obtain ⟨A, hA0, hA1, hAT⟩ := aTab_at (v2 / 4 % 8).toNat (by omega)
  have HAT := hide hAT
  clear hAT
  refine ⟨v2 % 4, A, 0, k + 1 + 1, by omega, fun r a n c w h hcode => ?_⟩
  have hrw := h.blk.lt
  have T0 : Turn (fun j => j = r) w (w.alloc (.cells #[.int .i64 0, .int .i64 0, .int .i64 0, .int .i64 0] 129)) := turn_alloc w _
  have kr0 := Blk.new w #[.int .i64 0, .int .i64 0, .int .i64 0, .int .i64 0] 129
  have h0 := rdr_below h ((Below.refl w.heap.size w).alloc (Nat.le_refl _) (.cells #[.int .i64 0, .int .i64 0, .int .i64 0, .int .i64 0] 129))
  clear h
  go_enter Try.func116, Try.ntmps116
  go_wp2_with fail
  refine (next_is r a n c zs k v1 _ h0 E1).mono ?_
  rintro e w1 ⟨rfl, h1, t1⟩
  have kr1 := turn_blk t1 kr0 (by omega)
  have T1 := T0.trans t1
  clear t1 kr0 T0 h0
  have hop := HOP.out w1
  have kop := Blk.new (w1.alloc (.cells #[.int .i64 2, .int .i64 6, .int .i64 15, .int .i64 16, .int .i64 19, .int .i64 20, .int .i64 21, .int .i64 22, .int .i64 23, .int .i64 24, .int .i64 25, .int .i64 1, .int .i64 3, .int .i64 4, .int .i64 5, .int .i64 7, .int .i64 8, .int .i64 9, .int .i64 10, .int .i64 11, .int .i64 12, .int .i64 13, .int .i64 14, .int .i64 17, .int .i64 18] 3)) #[.int .i64 op, .int .i64 0, .int .i64 0, .int .i64 0] 129
  have h1' := rdr_below (rdr_below h1 ((Below.refl w1.heap.size w1).alloc (Nat.le_refl _) (.cells #[.int .i64 2, .int .i64 6, .int .i64 15, .int .i64 16, .int .i64 19, .int .i64 20, .int .i64 21, .int .i64 22, .int .i64 23, .int .i64 24, .int .i64 25, .int .i64 1, .int .i64 3, .int .i64 4, .int .i64 5, .int .i64 7, .int .i64 8, .int .i64 9, .int .i64 10, .int .i64 11, .int .i64 12, .int .i64 13, .int .i64 14, .int .i64 17, .int .i64 18] 3))) ((Below.refl _ _).alloc (Nat.le_refl _) (.cells #[.int .i64 op, .int .i64 0, .int .i64 0, .int .i64 0] 129))
  have T1' := (T1.trans (turn_alloc w1 (.cells #[.int .i64 2, .int .i64 6, .int .i64 15, .int .i64 16, .int .i64 19, .int .i64 20, .int .i64 21, .int .i64 22, .int .i64 23, .int .i64 24, .int .i64 25, .int .i64 1, .int .i64 3, .int .i64 4, .int .i64 5, .int .i64 7, .int .i64 8, .int .i64 9, .int .i64 10, .int .i64 11, .int .i64 12, .int .i64 13, .int .i64 14, .int .i64 17, .int .i64 18] 3))).trans (turn_alloc _ (.cells #[.int .i64 op, .int .i64 0, .int .i64 0, .int .i64 0] 129))
  have kr1' := (kr1.alloc (.cells #[.int .i64 2, .int .i64 6, .int .i64 15, .int .i64 16, .int .i64 19, .int .i64 20, .int .i64 21, .int .i64 22, .int .i64 23, .int .i64 24, .int .i64 25, .int .i64 1, .int .i64 3, .int .i64 4, .int .i64 5, .int .i64 7, .int .i64 8, .int .i64 9, .int .i64 10, .int .i64 11, .int .i64 12, .int .i64 13, .int .i64 14, .int .i64 17, .int .i64 18] 3)).alloc (.cells #[.int .i64 op, .int .i64 0, .int .i64 0, .int .i64 0] 129)
  have hlt1 := kr1.lt
  clear kr1 T1 h1
  simp only [World.size_alloc] at kop
  go_wp2_with fail
  refine (next_is r a n c zs (k + 1) v2 _ h1' E2).mono ?_
  rintro e w2 ⟨rfl, h2, t2⟩
  have kr2 := turn_blk t2 kr1' (by omega)
  have ko2 := turn_blk t2 kop (by omega)
  have T2 := T1'.trans t2
  have hz2 := t2.size
  simp only [World.size_alloc] at hz2
  clear t2 kr1' T1' h1' kop hop
  obtain ⟨q1, q2, q3, q4, q5⟩ := ko2.four'
  obtain ⟨p1, p2, p3, p4, p5⟩ := kr2.four'
  go_wp2_with fail
  refine (l3Uses_any op _).mono ?_
  rintro e wx ⟨rfl, rfl⟩
  have H : Is w w2 r a n c zs (k + 1 + 1) (w1.heap.size + 1) op 0 0 0 := ⟨kr2, ko2, h2, T2, by omega, hrw, hcode⟩
  have HH := hide H
  clear H kr2 ko2 h2 T2 hcode
  have hbig : w.heap.size < w1.heap.size + 1 := by omega
  have hlt2 : w1.heap.size + 1 < w2.heap.size := by omega
  have hlt3 : w.heap.size < w2.heap.size := by omega
  rw [hu]
  clear hu
  have hA := HAT.out (w2.setCell ⟨w1.heap.size + 1, 1, none⟩ (.int .i64 (v2 % 4)))
  simp only [size_setCell] at hA
  go_wp2
  (with_reducible refine ((HH.out.set1 (v2 % 4)).set2 A).doneA _ Try.results116 _ _ ?_ ?_); rfl; omega
set_option maxHeartbeats 2000000 in
theorem l3Ins_u0 (zs : List Int) (k : Nat) (hz : ∀ j, 0 ≤ zs.getD j 0 ∧ zs.getD j 0 ≤ 255) (v1 : Int) (E1 : Hid (zs.getD k 0 = v1)) (z0 : 0 ≤ v1) (z0' : v1 ≤ 255) (op : Int) (ho1 : 1 ≤ op) (ho2 : op ≤ 25) (hu : us op = 0) (HOP : Hid (∀ W : World, (W.alloc (.cells #[.int .i64 2, .int .i64 6, .int .i64 15, .int .i64 16, .int .i64 19, .int .i64 20, .int .i64 21, .int .i64 22, .int .i64 23, .int .i64 24, .int .i64 25, .int .i64 1, .int .i64 3, .int .i64 4, .int .i64 5, .int .i64 7, .int .i64 8, .int .i64 9, .int .i64 10, .int .i64 11, .int .i64 12, .int .i64 13, .int .i64 14, .int .i64 17, .int .i64 18] 3)).cell? ⟨W.heap.size, (v1 % 25).toNat, none⟩ = some (.int .i64 op))) :
    ∃ (d x i : Int) (k' : Nat), (-1 ≤ (op : Int) ∧ (op : Int) ≤ 64 ∧ -1 ≤ d ∧ d ≤ 10 ∧ -1 ≤ x ∧ x ≤ 10 ∧ -1 ≤ i ∧ i ≤ 65536) ∧ ∀ (r : Nat) (a : Option Addr) (n c : Nat) (w : World) (h : Rdr w r a n c zs k) (hcode : n ≠ 0 → ∀ b off, a = some ⟨b, off, none⟩ → b < w.heap.size), Calls Try.prog 116 #[.pointer (some ⟨r, 0, none⟩)] w (InsDr w r a n c zs op d x i k') := by
  obtain ⟨v2, E2, z1, z1'⟩ := draw_of hz (k + 1)
  obtain ⟨v3, E3, z2, z2'⟩ := draw_of hz (k + 1 + 1)
  clear hz
  refine ⟨0, 0, 0, k + 1 + 1, by omega, fun r a n c w h hcode => ?_⟩
  have hrw := h.blk.lt
  have T0 : Turn (fun j => j = r) w (w.alloc (.cells #[.int .i64 0, .int .i64 0, .int .i64 0, .int .i64 0] 129)) := turn_alloc w _
  have kr0 := Blk.new w #[.int .i64 0, .int .i64 0, .int .i64 0, .int .i64 0] 129
  have h0 := rdr_below h ((Below.refl w.heap.size w).alloc (Nat.le_refl _) (.cells #[.int .i64 0, .int .i64 0, .int .i64 0, .int .i64 0] 129))
  clear h
  go_enter Try.func116, Try.ntmps116
  go_wp2_with fail
  refine (next_is r a n c zs k v1 _ h0 E1).mono ?_
  rintro e w1 ⟨rfl, h1, t1⟩
  have kr1 := turn_blk t1 kr0 (by omega)
  have T1 := T0.trans t1
  clear t1 kr0 T0 h0
  have hop := HOP.out w1
  have kop := Blk.new (w1.alloc (.cells #[.int .i64 2, .int .i64 6, .int .i64 15, .int .i64 16, .int .i64 19, .int .i64 20, .int .i64 21, .int .i64 22, .int .i64 23, .int .i64 24, .int .i64 25, .int .i64 1, .int .i64 3, .int .i64 4, .int .i64 5, .int .i64 7, .int .i64 8, .int .i64 9, .int .i64 10, .int .i64 11, .int .i64 12, .int .i64 13, .int .i64 14, .int .i64 17, .int .i64 18] 3)) #[.int .i64 op, .int .i64 0, .int .i64 0, .int .i64 0] 129
  have h1' := rdr_below (rdr_below h1 ((Below.refl w1.heap.size w1).alloc (Nat.le_refl _) (.cells #[.int .i64 2, .int .i64 6, .int .i64 15, .int .i64 16, .int .i64 19, .int .i64 20, .int .i64 21, .int .i64 22, .int .i64 23, .int .i64 24, .int .i64 25, .int .i64 1, .int .i64 3, .int .i64 4, .int .i64 5, .int .i64 7, .int .i64 8, .int .i64 9, .int .i64 10, .int .i64 11, .int .i64 12, .int .i64 13, .int .i64 14, .int .i64 17, .int .i64 18] 3))) ((Below.refl _ _).alloc (Nat.le_refl _) (.cells #[.int .i64 op, .int .i64 0, .int .i64 0, .int .i64 0] 129))
  have T1' := (T1.trans (turn_alloc w1 (.cells #[.int .i64 2, .int .i64 6, .int .i64 15, .int .i64 16, .int .i64 19, .int .i64 20, .int .i64 21, .int .i64 22, .int .i64 23, .int .i64 24, .int .i64 25, .int .i64 1, .int .i64 3, .int .i64 4, .int .i64 5, .int .i64 7, .int .i64 8, .int .i64 9, .int .i64 10, .int .i64 11, .int .i64 12, .int .i64 13, .int .i64 14, .int .i64 17, .int .i64 18] 3))).trans (turn_alloc _ (.cells #[.int .i64 op, .int .i64 0, .int .i64 0, .int .i64 0] 129))
  have kr1' := (kr1.alloc (.cells #[.int .i64 2, .int .i64 6, .int .i64 15, .int .i64 16, .int .i64 19, .int .i64 20, .int .i64 21, .int .i64 22, .int .i64 23, .int .i64 24, .int .i64 25, .int .i64 1, .int .i64 3, .int .i64 4, .int .i64 5, .int .i64 7, .int .i64 8, .int .i64 9, .int .i64 10, .int .i64 11, .int .i64 12, .int .i64 13, .int .i64 14, .int .i64 17, .int .i64 18] 3)).alloc (.cells #[.int .i64 op, .int .i64 0, .int .i64 0, .int .i64 0] 129)
  have hlt1 := kr1.lt
  clear kr1 T1 h1
  simp only [World.size_alloc] at kop
  go_wp2_with fail
  refine (next_is r a n c zs (k + 1) v2 _ h1' E2).mono ?_
  rintro e w2 ⟨rfl, h2, t2⟩
  have kr2 := turn_blk t2 kr1' (by omega)
  have ko2 := turn_blk t2 kop (by omega)
  have T2 := T1'.trans t2
  have hz2 := t2.size
  simp only [World.size_alloc] at hz2
  clear t2 kr1' T1' h1' kop hop
  obtain ⟨q1, q2, q3, q4, q5⟩ := ko2.four'
  obtain ⟨p1, p2, p3, p4, p5⟩ := kr2.four'
  go_wp2_with fail
  refine (l3Uses_any op _).mono ?_
  rintro e wx ⟨rfl, rfl⟩
  have H : Is w w2 r a n c zs (k + 1 + 1) (w1.heap.size + 1) op 0 0 0 := ⟨kr2, ko2, h2, T2, by omega, hrw, hcode⟩
  have HH := hide H
  clear H kr2 ko2 h2 T2 hcode
  have hbig : w.heap.size < w1.heap.size + 1 := by omega
  have hlt2 : w1.heap.size + 1 < w2.heap.size := by omega
  have hlt3 : w.heap.size < w2.heap.size := by omega
  rw [hu]
  clear hu
  go_wp2
  (with_reducible refine HH.out.done _ Try.results116 _ ?_ ?_); rfl; omega
set_option maxHeartbeats 2000000 in
theorem l3Ins_2 (zs : List Int) (k : Nat) (hz : ∀ j, 0 ≤ zs.getD j 0 ∧ zs.getD j 0 ≤ 255) (v1 : Int) (E1 : Hid (zs.getD k 0 = v1)) (z0 : 0 ≤ v1) (z0' : v1 ≤ 255) (HOP : Hid (∀ W : World, (W.alloc (.cells #[.int .i64 2, .int .i64 6, .int .i64 15, .int .i64 16, .int .i64 19, .int .i64 20, .int .i64 21, .int .i64 22, .int .i64 23, .int .i64 24, .int .i64 25, .int .i64 1, .int .i64 3, .int .i64 4, .int .i64 5, .int .i64 7, .int .i64 8, .int .i64 9, .int .i64 10, .int .i64 11, .int .i64 12, .int .i64 13, .int .i64 14, .int .i64 17, .int .i64 18] 3)).cell? ⟨W.heap.size, (v1 % 25).toNat, none⟩ = some (.int .i64 2))) :
    ∃ (d x i : Int) (k' : Nat), (-1 ≤ (2 : Int) ∧ (2 : Int) ≤ 64 ∧ -1 ≤ d ∧ d ≤ 10 ∧ -1 ≤ x ∧ x ≤ 10 ∧ -1 ≤ i ∧ i ≤ 65536) ∧ ∀ (r : Nat) (a : Option Addr) (n c : Nat) (w : World) (h : Rdr w r a n c zs k) (hcode : n ≠ 0 → ∀ b off, a = some ⟨b, off, none⟩ → b < w.heap.size), Calls Try.prog 116 #[.pointer (some ⟨r, 0, none⟩)] w (InsDr w r a n c zs 2 d x i k') := by
  obtain ⟨v2, E2, z1, z1'⟩ := draw_of hz (k + 1)
  obtain ⟨v3, E3, z2, z2'⟩ := draw_of hz (k + 1 + 1)
  clear hz
  refine ⟨v2 % 4, 0, v3 % 16, k + 1 + 1 + 1, by omega, fun r a n c w h hcode => ?_⟩
  have hrw := h.blk.lt
  have T0 : Turn (fun j => j = r) w (w.alloc (.cells #[.int .i64 0, .int .i64 0, .int .i64 0, .int .i64 0] 129)) := turn_alloc w _
  have kr0 := Blk.new w #[.int .i64 0, .int .i64 0, .int .i64 0, .int .i64 0] 129
  have h0 := rdr_below h ((Below.refl w.heap.size w).alloc (Nat.le_refl _) (.cells #[.int .i64 0, .int .i64 0, .int .i64 0, .int .i64 0] 129))
  clear h
  go_enter Try.func116, Try.ntmps116
  go_wp2_with fail
  refine (next_is r a n c zs k v1 _ h0 E1).mono ?_
  rintro e w1 ⟨rfl, h1, t1⟩
  have kr1 := turn_blk t1 kr0 (by omega)
  have T1 := T0.trans t1
  clear t1 kr0 T0 h0
  have hop := HOP.out w1
  have kop := Blk.new (w1.alloc (.cells #[.int .i64 2, .int .i64 6, .int .i64 15, .int .i64 16, .int .i64 19, .int .i64 20, .int .i64 21, .int .i64 22, .int .i64 23, .int .i64 24, .int .i64 25, .int .i64 1, .int .i64 3, .int .i64 4, .int .i64 5, .int .i64 7, .int .i64 8, .int .i64 9, .int .i64 10, .int .i64 11, .int .i64 12, .int .i64 13, .int .i64 14, .int .i64 17, .int .i64 18] 3)) #[.int .i64 2, .int .i64 0, .int .i64 0, .int .i64 0] 129
  have h1' := rdr_below (rdr_below h1 ((Below.refl w1.heap.size w1).alloc (Nat.le_refl _) (.cells #[.int .i64 2, .int .i64 6, .int .i64 15, .int .i64 16, .int .i64 19, .int .i64 20, .int .i64 21, .int .i64 22, .int .i64 23, .int .i64 24, .int .i64 25, .int .i64 1, .int .i64 3, .int .i64 4, .int .i64 5, .int .i64 7, .int .i64 8, .int .i64 9, .int .i64 10, .int .i64 11, .int .i64 12, .int .i64 13, .int .i64 14, .int .i64 17, .int .i64 18] 3))) ((Below.refl _ _).alloc (Nat.le_refl _) (.cells #[.int .i64 2, .int .i64 0, .int .i64 0, .int .i64 0] 129))
  have T1' := (T1.trans (turn_alloc w1 (.cells #[.int .i64 2, .int .i64 6, .int .i64 15, .int .i64 16, .int .i64 19, .int .i64 20, .int .i64 21, .int .i64 22, .int .i64 23, .int .i64 24, .int .i64 25, .int .i64 1, .int .i64 3, .int .i64 4, .int .i64 5, .int .i64 7, .int .i64 8, .int .i64 9, .int .i64 10, .int .i64 11, .int .i64 12, .int .i64 13, .int .i64 14, .int .i64 17, .int .i64 18] 3))).trans (turn_alloc _ (.cells #[.int .i64 2, .int .i64 0, .int .i64 0, .int .i64 0] 129))
  have kr1' := (kr1.alloc (.cells #[.int .i64 2, .int .i64 6, .int .i64 15, .int .i64 16, .int .i64 19, .int .i64 20, .int .i64 21, .int .i64 22, .int .i64 23, .int .i64 24, .int .i64 25, .int .i64 1, .int .i64 3, .int .i64 4, .int .i64 5, .int .i64 7, .int .i64 8, .int .i64 9, .int .i64 10, .int .i64 11, .int .i64 12, .int .i64 13, .int .i64 14, .int .i64 17, .int .i64 18] 3)).alloc (.cells #[.int .i64 2, .int .i64 0, .int .i64 0, .int .i64 0] 129)
  have hlt1 := kr1.lt
  clear kr1 T1 h1
  simp only [World.size_alloc] at kop
  go_wp2_with fail
  refine (next_is r a n c zs (k + 1) v2 _ h1' E2).mono ?_
  rintro e w2 ⟨rfl, h2, t2⟩
  have kr2 := turn_blk t2 kr1' (by omega)
  have ko2 := turn_blk t2 kop (by omega)
  have T2 := T1'.trans t2
  have hz2 := t2.size
  simp only [World.size_alloc] at hz2
  clear t2 kr1' T1' h1' kop hop
  obtain ⟨q1, q2, q3, q4, q5⟩ := ko2.four'
  obtain ⟨p1, p2, p3, p4, p5⟩ := kr2.four'
  go_wp2_with fail
  refine (l3Uses_any 2 _).mono ?_
  rintro e wx ⟨rfl, rfl⟩
  have H : Is w w2 r a n c zs (k + 1 + 1) (w1.heap.size + 1) 2 0 0 0 := ⟨kr2, ko2, h2, T2, by omega, hrw, hcode⟩
  have HH := hide H
  clear H kr2 ko2 h2 T2 hcode
  have hbig : w.heap.size < w1.heap.size + 1 := by omega
  have hlt2 : w1.heap.size + 1 < w2.heap.size := by omega
  have hlt3 : w.heap.size < w2.heap.size := by omega
  rw [show us 2 = 5 from by decide]
  have N := (HH.out.set1 (v2 % 4))
  go_wp2_with fail
  refine (next_is r a n c zs (k + 1 + 1) v3 _ N.rd E3).mono ?_
  rintro e w3 ⟨rfl, hr3, t3⟩
  have N3 := N.next hr3 t3
  have hz3 := t3.size
  try simp only [World.size_alloc, size_setCell] at hz3
  clear N hr3 t3 q1 q2 q3 q4 q5 p1 p2 p3 p4 p5 HH
  obtain ⟨q1, q2, q3, q4, q5⟩ := N3.ins.four'
  obtain ⟨p1, p2, p3, p4, p5⟩ := N3.res.four'
  have HN := hide N3
  clear N3
  go_wp2
  (with_reducible refine (HN.out.set3 (v3 % 16)).done _ Try.results116 _ ?_ ?_); rfl; omega
set_option maxHeartbeats 2000000 in
theorem l3Ins_3 (zs : List Int) (k : Nat) (hz : ∀ j, 0 ≤ zs.getD j 0 ∧ zs.getD j 0 ≤ 255) (v1 : Int) (E1 : Hid (zs.getD k 0 = v1)) (z0 : 0 ≤ v1) (z0' : v1 ≤ 255) (HOP : Hid (∀ W : World, (W.alloc (.cells #[.int .i64 2, .int .i64 6, .int .i64 15, .int .i64 16, .int .i64 19, .int .i64 20, .int .i64 21, .int .i64 22, .int .i64 23, .int .i64 24, .int .i64 25, .int .i64 1, .int .i64 3, .int .i64 4, .int .i64 5, .int .i64 7, .int .i64 8, .int .i64 9, .int .i64 10, .int .i64 11, .int .i64 12, .int .i64 13, .int .i64 14, .int .i64 17, .int .i64 18] 3)).cell? ⟨W.heap.size, (v1 % 25).toNat, none⟩ = some (.int .i64 3))) :
    ∃ (d x i : Int) (k' : Nat), (-1 ≤ (3 : Int) ∧ (3 : Int) ≤ 64 ∧ -1 ≤ d ∧ d ≤ 10 ∧ -1 ≤ x ∧ x ≤ 10 ∧ -1 ≤ i ∧ i ≤ 65536) ∧ ∀ (r : Nat) (a : Option Addr) (n c : Nat) (w : World) (h : Rdr w r a n c zs k) (hcode : n ≠ 0 → ∀ b off, a = some ⟨b, off, none⟩ → b < w.heap.size), Calls Try.prog 116 #[.pointer (some ⟨r, 0, none⟩)] w (InsDr w r a n c zs 3 d x i k') := by
  obtain ⟨v2, E2, z1, z1'⟩ := draw_of hz (k + 1)
  obtain ⟨v3, E3, z2, z2'⟩ := draw_of hz (k + 1 + 1)
  clear hz
  refine ⟨v2 % 4, 0, v3 % 16, k + 1 + 1 + 1, by omega, fun r a n c w h hcode => ?_⟩
  have hrw := h.blk.lt
  have T0 : Turn (fun j => j = r) w (w.alloc (.cells #[.int .i64 0, .int .i64 0, .int .i64 0, .int .i64 0] 129)) := turn_alloc w _
  have kr0 := Blk.new w #[.int .i64 0, .int .i64 0, .int .i64 0, .int .i64 0] 129
  have h0 := rdr_below h ((Below.refl w.heap.size w).alloc (Nat.le_refl _) (.cells #[.int .i64 0, .int .i64 0, .int .i64 0, .int .i64 0] 129))
  clear h
  go_enter Try.func116, Try.ntmps116
  go_wp2_with fail
  refine (next_is r a n c zs k v1 _ h0 E1).mono ?_
  rintro e w1 ⟨rfl, h1, t1⟩
  have kr1 := turn_blk t1 kr0 (by omega)
  have T1 := T0.trans t1
  clear t1 kr0 T0 h0
  have hop := HOP.out w1
  have kop := Blk.new (w1.alloc (.cells #[.int .i64 2, .int .i64 6, .int .i64 15, .int .i64 16, .int .i64 19, .int .i64 20, .int .i64 21, .int .i64 22, .int .i64 23, .int .i64 24, .int .i64 25, .int .i64 1, .int .i64 3, .int .i64 4, .int .i64 5, .int .i64 7, .int .i64 8, .int .i64 9, .int .i64 10, .int .i64 11, .int .i64 12, .int .i64 13, .int .i64 14, .int .i64 17, .int .i64 18] 3)) #[.int .i64 3, .int .i64 0, .int .i64 0, .int .i64 0] 129
  have h1' := rdr_below (rdr_below h1 ((Below.refl w1.heap.size w1).alloc (Nat.le_refl _) (.cells #[.int .i64 2, .int .i64 6, .int .i64 15, .int .i64 16, .int .i64 19, .int .i64 20, .int .i64 21, .int .i64 22, .int .i64 23, .int .i64 24, .int .i64 25, .int .i64 1, .int .i64 3, .int .i64 4, .int .i64 5, .int .i64 7, .int .i64 8, .int .i64 9, .int .i64 10, .int .i64 11, .int .i64 12, .int .i64 13, .int .i64 14, .int .i64 17, .int .i64 18] 3))) ((Below.refl _ _).alloc (Nat.le_refl _) (.cells #[.int .i64 3, .int .i64 0, .int .i64 0, .int .i64 0] 129))
  have T1' := (T1.trans (turn_alloc w1 (.cells #[.int .i64 2, .int .i64 6, .int .i64 15, .int .i64 16, .int .i64 19, .int .i64 20, .int .i64 21, .int .i64 22, .int .i64 23, .int .i64 24, .int .i64 25, .int .i64 1, .int .i64 3, .int .i64 4, .int .i64 5, .int .i64 7, .int .i64 8, .int .i64 9, .int .i64 10, .int .i64 11, .int .i64 12, .int .i64 13, .int .i64 14, .int .i64 17, .int .i64 18] 3))).trans (turn_alloc _ (.cells #[.int .i64 3, .int .i64 0, .int .i64 0, .int .i64 0] 129))
  have kr1' := (kr1.alloc (.cells #[.int .i64 2, .int .i64 6, .int .i64 15, .int .i64 16, .int .i64 19, .int .i64 20, .int .i64 21, .int .i64 22, .int .i64 23, .int .i64 24, .int .i64 25, .int .i64 1, .int .i64 3, .int .i64 4, .int .i64 5, .int .i64 7, .int .i64 8, .int .i64 9, .int .i64 10, .int .i64 11, .int .i64 12, .int .i64 13, .int .i64 14, .int .i64 17, .int .i64 18] 3)).alloc (.cells #[.int .i64 3, .int .i64 0, .int .i64 0, .int .i64 0] 129)
  have hlt1 := kr1.lt
  clear kr1 T1 h1
  simp only [World.size_alloc] at kop
  go_wp2_with fail
  refine (next_is r a n c zs (k + 1) v2 _ h1' E2).mono ?_
  rintro e w2 ⟨rfl, h2, t2⟩
  have kr2 := turn_blk t2 kr1' (by omega)
  have ko2 := turn_blk t2 kop (by omega)
  have T2 := T1'.trans t2
  have hz2 := t2.size
  simp only [World.size_alloc] at hz2
  clear t2 kr1' T1' h1' kop hop
  obtain ⟨q1, q2, q3, q4, q5⟩ := ko2.four'
  obtain ⟨p1, p2, p3, p4, p5⟩ := kr2.four'
  go_wp2_with fail
  refine (l3Uses_any 3 _).mono ?_
  rintro e wx ⟨rfl, rfl⟩
  have H : Is w w2 r a n c zs (k + 1 + 1) (w1.heap.size + 1) 3 0 0 0 := ⟨kr2, ko2, h2, T2, by omega, hrw, hcode⟩
  have HH := hide H
  clear H kr2 ko2 h2 T2 hcode
  have hbig : w.heap.size < w1.heap.size + 1 := by omega
  have hlt2 : w1.heap.size + 1 < w2.heap.size := by omega
  have hlt3 : w.heap.size < w2.heap.size := by omega
  rw [show us 3 = 5 from by decide]
  have N := (HH.out.set1 (v2 % 4))
  go_wp2_with fail
  refine (next_is r a n c zs (k + 1 + 1) v3 _ N.rd E3).mono ?_
  rintro e w3 ⟨rfl, hr3, t3⟩
  have N3 := N.next hr3 t3
  have hz3 := t3.size
  try simp only [World.size_alloc, size_setCell] at hz3
  clear N hr3 t3 q1 q2 q3 q4 q5 p1 p2 p3 p4 p5 HH
  obtain ⟨q1, q2, q3, q4, q5⟩ := N3.ins.four'
  obtain ⟨p1, p2, p3, p4, p5⟩ := N3.res.four'
  have HN := hide N3
  clear N3
  go_wp2
  (with_reducible refine (HN.out.set3 (v3 % 16)).done _ Try.results116 _ ?_ ?_); rfl; omega
set_option maxHeartbeats 2000000 in
theorem l3Ins_6 (zs : List Int) (k : Nat) (hz : ∀ j, 0 ≤ zs.getD j 0 ∧ zs.getD j 0 ≤ 255) (v1 : Int) (E1 : Hid (zs.getD k 0 = v1)) (z0 : 0 ≤ v1) (z0' : v1 ≤ 255) (HOP : Hid (∀ W : World, (W.alloc (.cells #[.int .i64 2, .int .i64 6, .int .i64 15, .int .i64 16, .int .i64 19, .int .i64 20, .int .i64 21, .int .i64 22, .int .i64 23, .int .i64 24, .int .i64 25, .int .i64 1, .int .i64 3, .int .i64 4, .int .i64 5, .int .i64 7, .int .i64 8, .int .i64 9, .int .i64 10, .int .i64 11, .int .i64 12, .int .i64 13, .int .i64 14, .int .i64 17, .int .i64 18] 3)).cell? ⟨W.heap.size, (v1 % 25).toNat, none⟩ = some (.int .i64 6))) :
    ∃ (d x i : Int) (k' : Nat), (-1 ≤ (6 : Int) ∧ (6 : Int) ≤ 64 ∧ -1 ≤ d ∧ d ≤ 10 ∧ -1 ≤ x ∧ x ≤ 10 ∧ -1 ≤ i ∧ i ≤ 65536) ∧ ∀ (r : Nat) (a : Option Addr) (n c : Nat) (w : World) (h : Rdr w r a n c zs k) (hcode : n ≠ 0 → ∀ b off, a = some ⟨b, off, none⟩ → b < w.heap.size), Calls Try.prog 116 #[.pointer (some ⟨r, 0, none⟩)] w (InsDr w r a n c zs 6 d x i k') := by
  obtain ⟨v2, E2, z1, z1'⟩ := draw_of hz (k + 1)
  obtain ⟨v3, E3, z2, z2'⟩ := draw_of hz (k + 1 + 1)
  clear hz
  obtain ⟨A, hA0, hA1, hAT⟩ := aTab_at (v2 / 4 % 8).toNat (by omega)
  have HAT := hide hAT
  clear hAT
  by_cases hA6 : A = 6
  · have HCD := hide hA6
    clear hA6
    refine ⟨v2 % 4, A, v3 % 16, k + 1 + 1 + 1, by omega, fun r a n c w h hcode => ?_⟩
    have hrw := h.blk.lt
    have T0 : Turn (fun j => j = r) w (w.alloc (.cells #[.int .i64 0, .int .i64 0, .int .i64 0, .int .i64 0] 129)) := turn_alloc w _
    have kr0 := Blk.new w #[.int .i64 0, .int .i64 0, .int .i64 0, .int .i64 0] 129
    have h0 := rdr_below h ((Below.refl w.heap.size w).alloc (Nat.le_refl _) (.cells #[.int .i64 0, .int .i64 0, .int .i64 0, .int .i64 0] 129))
    clear h
    go_enter Try.func116, Try.ntmps116
    go_wp2_with fail
    refine (next_is r a n c zs k v1 _ h0 E1).mono ?_
    rintro e w1 ⟨rfl, h1, t1⟩
    have kr1 := turn_blk t1 kr0 (by omega)
    have T1 := T0.trans t1
    clear t1 kr0 T0 h0
    have hop := HOP.out w1
    have kop := Blk.new (w1.alloc (.cells #[.int .i64 2, .int .i64 6, .int .i64 15, .int .i64 16, .int .i64 19, .int .i64 20, .int .i64 21, .int .i64 22, .int .i64 23, .int .i64 24, .int .i64 25, .int .i64 1, .int .i64 3, .int .i64 4, .int .i64 5, .int .i64 7, .int .i64 8, .int .i64 9, .int .i64 10, .int .i64 11, .int .i64 12, .int .i64 13, .int .i64 14, .int .i64 17, .int .i64 18] 3)) #[.int .i64 6, .int .i64 0, .int .i64 0, .int .i64 0] 129
    have h1' := rdr_below (rdr_below h1 ((Below.refl w1.heap.size w1).alloc (Nat.le_refl _) (.cells #[.int .i64 2, .int .i64 6, .int .i64 15, .int .i64 16, .int .i64 19, .int .i64 20, .int .i64 21, .int .i64 22, .int .i64 23, .int .i64 24, .int .i64 25, .int .i64 1, .int .i64 3, .int .i64 4, .int .i64 5, .int .i64 7, .int .i64 8, .int .i64 9, .int .i64 10, .int .i64 11, .int .i64 12, .int .i64 13, .int .i64 14, .int .i64 17, .int .i64 18] 3))) ((Below.refl _ _).alloc (Nat.le_refl _) (.cells #[.int .i64 6, .int .i64 0, .int .i64 0, .int .i64 0] 129))
    have T1' := (T1.trans (turn_alloc w1 (.cells #[.int .i64 2, .int .i64 6, .int .i64 15, .int .i64 16, .int .i64 19, .int .i64 20, .int .i64 21, .int .i64 22, .int .i64 23, .int .i64 24, .int .i64 25, .int .i64 1, .int .i64 3, .int .i64 4, .int .i64 5, .int .i64 7, .int .i64 8, .int .i64 9, .int .i64 10, .int .i64 11, .int .i64 12, .int .i64 13, .int .i64 14, .int .i64 17, .int .i64 18] 3))).trans (turn_alloc _ (.cells #[.int .i64 6, .int .i64 0, .int .i64 0, .int .i64 0] 129))
    have kr1' := (kr1.alloc (.cells #[.int .i64 2, .int .i64 6, .int .i64 15, .int .i64 16, .int .i64 19, .int .i64 20, .int .i64 21, .int .i64 22, .int .i64 23, .int .i64 24, .int .i64 25, .int .i64 1, .int .i64 3, .int .i64 4, .int .i64 5, .int .i64 7, .int .i64 8, .int .i64 9, .int .i64 10, .int .i64 11, .int .i64 12, .int .i64 13, .int .i64 14, .int .i64 17, .int .i64 18] 3)).alloc (.cells #[.int .i64 6, .int .i64 0, .int .i64 0, .int .i64 0] 129)
    have hlt1 := kr1.lt
    clear kr1 T1 h1
    simp only [World.size_alloc] at kop
    go_wp2_with fail
    refine (next_is r a n c zs (k + 1) v2 _ h1' E2).mono ?_
    rintro e w2 ⟨rfl, h2, t2⟩
    have kr2 := turn_blk t2 kr1' (by omega)
    have ko2 := turn_blk t2 kop (by omega)
    have T2 := T1'.trans t2
    have hz2 := t2.size
    simp only [World.size_alloc] at hz2
    clear t2 kr1' T1' h1' kop hop
    obtain ⟨q1, q2, q3, q4, q5⟩ := ko2.four'
    obtain ⟨p1, p2, p3, p4, p5⟩ := kr2.four'
    go_wp2_with fail
    refine (l3Uses_any 6 _).mono ?_
    rintro e wx ⟨rfl, rfl⟩
    have H : Is w w2 r a n c zs (k + 1 + 1) (w1.heap.size + 1) 6 0 0 0 := ⟨kr2, ko2, h2, T2, by omega, hrw, hcode⟩
    have HH := hide H
    clear H kr2 ko2 h2 T2 hcode
    have hbig : w.heap.size < w1.heap.size + 1 := by omega
    have hlt2 : w1.heap.size + 1 < w2.heap.size := by omega
    have hlt3 : w.heap.size < w2.heap.size := by omega
    rw [show us 6 = 7 from by decide]
    have hA := HAT.out (w2.setCell ⟨w1.heap.size + 1, 1, none⟩ (.int .i64 (v2 % 4)))
    simp only [size_setCell] at hA
    have N := (((HH.out.set1 (v2 % 4)).set2 A).more (.cells #[.int .i64 7, .int .i64 6, .int .i64 0, .int .i64 1, .int .i64 2, .int .i64 7, .int .i64 6, .int .i64 3] 3))
    go_wp2_with fail
    refine (next_is r a n c zs (k + 1 + 1) v3 _ N.rd E3).mono ?_
    rintro e w3 ⟨rfl, hr3, t3⟩
    have N3 := N.next hr3 t3
    have hz3 := t3.size
    try simp only [World.size_alloc, size_setCell] at hz3
    clear N hr3 t3 q1 q2 q3 q4 q5 p1 p2 p3 p4 p5 HH hA
    obtain ⟨q1, q2, q3, q4, q5⟩ := N3.ins.four'
    obtain ⟨p1, p2, p3, p4, p5⟩ := N3.res.four'
    have HN := hide N3
    clear N3
    have hA6 := HCD.out
    subst hA6
    go_wp2
    (with_reducible refine (HN.out.set3 (v3 % 16)).done _ Try.results116 _ ?_ ?_); rfl; omega
  · have HCD := hide hA6
    clear hA6
    refine ⟨v2 % 4, A, v3 % 16, k + 1 + 1 + 1, by omega, fun r a n c w h hcode => ?_⟩
    have hrw := h.blk.lt
    have T0 : Turn (fun j => j = r) w (w.alloc (.cells #[.int .i64 0, .int .i64 0, .int .i64 0, .int .i64 0] 129)) := turn_alloc w _
    have kr0 := Blk.new w #[.int .i64 0, .int .i64 0, .int .i64 0, .int .i64 0] 129
    have h0 := rdr_below h ((Below.refl w.heap.size w).alloc (Nat.le_refl _) (.cells #[.int .i64 0, .int .i64 0, .int .i64 0, .int .i64 0] 129))
    clear h
    go_enter Try.func116, Try.ntmps116
    go_wp2_with fail
    refine (next_is r a n c zs k v1 _ h0 E1).mono ?_
    rintro e w1 ⟨rfl, h1, t1⟩
    have kr1 := turn_blk t1 kr0 (by omega)
    have T1 := T0.trans t1
    clear t1 kr0 T0 h0
    have hop := HOP.out w1
    have kop := Blk.new (w1.alloc (.cells #[.int .i64 2, .int .i64 6, .int .i64 15, .int .i64 16, .int .i64 19, .int .i64 20, .int .i64 21, .int .i64 22, .int .i64 23, .int .i64 24, .int .i64 25, .int .i64 1, .int .i64 3, .int .i64 4, .int .i64 5, .int .i64 7, .int .i64 8, .int .i64 9, .int .i64 10, .int .i64 11, .int .i64 12, .int .i64 13, .int .i64 14, .int .i64 17, .int .i64 18] 3)) #[.int .i64 6, .int .i64 0, .int .i64 0, .int .i64 0] 129
    have h1' := rdr_below (rdr_below h1 ((Below.refl w1.heap.size w1).alloc (Nat.le_refl _) (.cells #[.int .i64 2, .int .i64 6, .int .i64 15, .int .i64 16, .int .i64 19, .int .i64 20, .int .i64 21, .int .i64 22, .int .i64 23, .int .i64 24, .int .i64 25, .int .i64 1, .int .i64 3, .int .i64 4, .int .i64 5, .int .i64 7, .int .i64 8, .int .i64 9, .int .i64 10, .int .i64 11, .int .i64 12, .int .i64 13, .int .i64 14, .int .i64 17, .int .i64 18] 3))) ((Below.refl _ _).alloc (Nat.le_refl _) (.cells #[.int .i64 6, .int .i64 0, .int .i64 0, .int .i64 0] 129))
    have T1' := (T1.trans (turn_alloc w1 (.cells #[.int .i64 2, .int .i64 6, .int .i64 15, .int .i64 16, .int .i64 19, .int .i64 20, .int .i64 21, .int .i64 22, .int .i64 23, .int .i64 24, .int .i64 25, .int .i64 1, .int .i64 3, .int .i64 4, .int .i64 5, .int .i64 7, .int .i64 8, .int .i64 9, .int .i64 10, .int .i64 11, .int .i64 12, .int .i64 13, .int .i64 14, .int .i64 17, .int .i64 18] 3))).trans (turn_alloc _ (.cells #[.int .i64 6, .int .i64 0, .int .i64 0, .int .i64 0] 129))
    have kr1' := (kr1.alloc (.cells #[.int .i64 2, .int .i64 6, .int .i64 15, .int .i64 16, .int .i64 19, .int .i64 20, .int .i64 21, .int .i64 22, .int .i64 23, .int .i64 24, .int .i64 25, .int .i64 1, .int .i64 3, .int .i64 4, .int .i64 5, .int .i64 7, .int .i64 8, .int .i64 9, .int .i64 10, .int .i64 11, .int .i64 12, .int .i64 13, .int .i64 14, .int .i64 17, .int .i64 18] 3)).alloc (.cells #[.int .i64 6, .int .i64 0, .int .i64 0, .int .i64 0] 129)
    have hlt1 := kr1.lt
    clear kr1 T1 h1
    simp only [World.size_alloc] at kop
    go_wp2_with fail
    refine (next_is r a n c zs (k + 1) v2 _ h1' E2).mono ?_
    rintro e w2 ⟨rfl, h2, t2⟩
    have kr2 := turn_blk t2 kr1' (by omega)
    have ko2 := turn_blk t2 kop (by omega)
    have T2 := T1'.trans t2
    have hz2 := t2.size
    simp only [World.size_alloc] at hz2
    clear t2 kr1' T1' h1' kop hop
    obtain ⟨q1, q2, q3, q4, q5⟩ := ko2.four'
    obtain ⟨p1, p2, p3, p4, p5⟩ := kr2.four'
    go_wp2_with fail
    refine (l3Uses_any 6 _).mono ?_
    rintro e wx ⟨rfl, rfl⟩
    have H : Is w w2 r a n c zs (k + 1 + 1) (w1.heap.size + 1) 6 0 0 0 := ⟨kr2, ko2, h2, T2, by omega, hrw, hcode⟩
    have HH := hide H
    clear H kr2 ko2 h2 T2 hcode
    have hbig : w.heap.size < w1.heap.size + 1 := by omega
    have hlt2 : w1.heap.size + 1 < w2.heap.size := by omega
    have hlt3 : w.heap.size < w2.heap.size := by omega
    rw [show us 6 = 7 from by decide]
    have hA := HAT.out (w2.setCell ⟨w1.heap.size + 1, 1, none⟩ (.int .i64 (v2 % 4)))
    simp only [size_setCell] at hA
    have N := (((HH.out.set1 (v2 % 4)).set2 A).more (.cells #[.int .i64 7, .int .i64 6, .int .i64 0, .int .i64 1, .int .i64 2, .int .i64 7, .int .i64 6, .int .i64 3] 3))
    go_wp2_with fail
    refine (next_is r a n c zs (k + 1 + 1) v3 _ N.rd E3).mono ?_
    rintro e w3 ⟨rfl, hr3, t3⟩
    have N3 := N.next hr3 t3
    have hz3 := t3.size
    try simp only [World.size_alloc, size_setCell] at hz3
    clear N hr3 t3 q1 q2 q3 q4 q5 p1 p2 p3 p4 p5 HH hA
    obtain ⟨q1, q2, q3, q4, q5⟩ := N3.ins.four'
    obtain ⟨p1, p2, p3, p4, p5⟩ := N3.res.four'
    have HN := hide N3
    clear N3
    have hA6 := HCD.out
    have hA6 : (A == 6) = false := by simpa using hA6
    go_wp2
    (with_reducible refine (HN.out.set3 (v3 % 16)).done _ Try.results116 _ ?_ ?_); rfl; omega
end Go.Proofs.Ytngdgogjlpjjpad
namespace Go.Proofs.Ytngdgogjlpjjpad
open Go.RowKit
set_option linter.unusedVariables false
def OB (w : World) (base : Nat) (v : Value) (zs : List Int) : Prop := w.ownsRow base 5 1 v zs.length (zs.map (Value.int .u8)) ∧ ∀ z ∈ zs, 0 ≤ z ∧ z ≤ 255
theorem bs_news {w : World} {b off n cap : Nat} {zs : List Int} (h : BS w (some ⟨b, off, none⟩) n cap zs) : ∀ j u, (zs.map (Value.int .u8))[j]? = some u → w.cell? ((⟨b, off, none⟩ : Addr).add j) = some u := by
  intro j u hj
  have hl := h.1
  have hjl : j < n := by
    by_cases e : j < n
    · exact e
    · rw [List.getElem?_eq_none (by simp; omega)] at hj; simp at hj
  rw [addr_add, h.at j hjl]
  rw [← hj]
  simp [List.getD_eq_getElem?_getD, show j < zs.length by omega]
theorem own_empty (w : World) : (w.alloc (.cells #[] 5)).ownsRow w.heap.size 5 1 (.slice (some ⟨w.heap.size, 0, none⟩) 0 0) 0 [] :=
  ⟨rfl, .inr ⟨w.heap.size, 0, #[], rfl, Nat.le_refl _, heap_alloc_new w _, Nat.le_refl _, Nat.zero_le _, rfl, rfl⟩⟩
theorem own_shape {w : World} {base n : Nat} {t : TypeId} {v : Value} {xs : List Value} (h : w.ownsRow base t 1 v n xs) : ∃ a cap, v = .slice a n cap := by
  obtain ⟨_, ⟨rfl, rfl⟩ | ⟨g, cap, cur, rfl, _⟩⟩ := h
  · exact ⟨_, _, rfl⟩
  · exact ⟨_, _, rfl⟩
theorem below_grown' {B : Nat} {a w w' : World} {k : Nat} (h : Below B a w) (hg : w.grownBy w' (some k)) (hB : B ≤ w.heap.size) (hk : B ≤ k) : Below B a w' := h.grown hg hB (fun j hj => by cases hj; exact hk)
set_option maxHeartbeats 1000000 in
theorem l1Bytes_any (b off n cap : Nat) (zs : List Int) (w : World) (h : BS w (some ⟨b, off, none⟩) n cap zs) (hn : n ≤ 1048576) :
    Calls Try.prog 62 #[.slice (some ⟨b, off, none⟩) n cap] w fun e w' => ∃ a cap', e = .returned (.slice a n cap') ∧ OB w' w.heap.size (.slice a n cap') zs ∧ Below w.heap.size w w' := by
  obtain ⟨i0, hi, hz0, hz1, hz2⟩ := info_parts info8
  have hl := h.1
  have h' := h.below ((Below.refl w.heap.size w).alloc (Nat.le_refl _) (.cells #[] 5))
  have hnews := hide (bs_news h')
  have hone := hide (ints_oneCell .u8 zs)
  have hown := hide (own_empty w)
  have hlen := hide (show (zs.map (Value.int .u8)).length = n * 1 by simp; omega)
  go_enter Try.func62, Try.ntmps62
  go_wp2_with (at_builtin; refine wpList_append_own _ rfl _ _ 22 rfl w.heap.size 5 i0 (.int .u8 0) 1 1 Try.underlying22 hi hz0 hz1 hz2 rfl (by decide) _ 0 [] rfl hown.out ⟨b, off, none⟩ n cap (zs.map (Value.int .u8)) rfl hlen.out hnews.out hone.out (by unfold maxLen; omega) (by omega) (by simp) ?_; intro v' w1 hown1 hgr1 _)
  simp only [Nat.zero_add, List.nil_append] at hown1
  have hex := own_shape hown1
  go_ret
  obtain ⟨a', cap', he⟩ := hex
  refine ⟨a', cap', by rw [← he]; rfl, ⟨?_, h.2.2.1⟩, ?_⟩
  · rw [hl, ← he]
    exact hown1
  · exact below_grown' ((Below.refl w.heap.size w).alloc (Nat.le_refl _) _) hgr1 (by simp) (Nat.le_refl _)
set_option maxHeartbeats 1000000 in
theorem clone_any (b off n cap : Nat) (zs : List Int) (w : World) (h : BS w (some ⟨b, off, none⟩) n cap zs) (hn : n ≤ 1048576) :
    Calls Try.prog 73 #[.slice (some ⟨b, off, none⟩) n cap] w fun e w' => ∃ a cap', e = .returned (.slice a n cap') ∧ OB w' w.heap.size (.slice a n cap') zs ∧ Below w.heap.size w w' := by
  obtain ⟨i0, hi, hz0, hz1, hz2⟩ := info_parts info8
  have hl := h.1
  have h' := h.below ((Below.refl w.heap.size w).alloc (Nat.le_refl _) (.cells #[] 5))
  have hnews := hide (bs_news h')
  have hone := hide (ints_oneCell .u8 zs)
  have hown := hide (own_empty w)
  have hlen := hide (show (zs.map (Value.int .u8)).length = n * 1 by simp; omega)
  have hnil := fun (w : World) => Lib.run_eql_slice_nil (P := Try.prog) w 22 5 (some ⟨b, off, none⟩) n cap 0 0 Try.underlying22
  go_enter Try.func73, Try.ntmps73
  go_wp2_with (at_builtin; refine wpList_append_own _ rfl _ _ 22 rfl w.heap.size 5 i0 (.int .u8 0) 1 1 Try.underlying22 hi hz0 hz1 hz2 rfl (by decide) _ 0 [] rfl hown.out ⟨b, off, none⟩ n cap (zs.map (Value.int .u8)) rfl hlen.out hnews.out hone.out (by unfold maxLen; omega) (by omega) (by simp) ?_; intro v' w1 hown1 hgr1 _)
  simp only [Nat.zero_add, List.nil_append] at hown1
  have hex := own_shape hown1
  go_ret
  obtain ⟨a', cap', he⟩ := hex
  refine ⟨a', cap', by rw [← he]; rfl, ⟨?_, h.2.2.1⟩, ?_⟩
  · rw [hl, ← he]
    exact hown1
  · exact below_grown' ((Below.refl w.heap.size w).alloc (Nat.le_refl _) _) hgr1 (by simp) (Nat.le_refl _)
theorem OB.below {w w' : World} {base : Nat} {v : Value} {zs : List Int} (h : OB w base v zs) (hb : Below w.heap.size w w') : OB w' base v zs := by
  refine ⟨?_, h.2⟩
  obtain ⟨hl, h0 | ⟨g, cap, cur, hv, hg, hh, h1, h2, h3, h4⟩⟩ := h.1
  · exact ⟨hl, .inl h0⟩
  · refine ⟨hl, .inr ⟨g, cap, cur, hv, hg, ?_, h1, h2, h3, h4⟩⟩
    exact Blk.below (w := w) hh hb
theorem OB.mono {w : World} {base base' : Nat} {v : Value} {zs : List Int} (h : OB w base v zs) (hb : base' ≤ base) : OB w base' v zs := by
  refine ⟨?_, h.2⟩
  obtain ⟨hl, h0 | ⟨g, cap, cur, hv, hg, hh, h1, h2, h3, h4⟩⟩ := h.1
  · exact ⟨hl, .inl h0⟩
  · exact ⟨hl, .inr ⟨g, cap, cur, hv, by omega, hh, h1, h2, h3, h4⟩⟩
theorem OB.other {w : World} {base : Nat} {v : Value} {zs : List Int} (h : OB w base v zs) (a : Addr) (u : Value) (ha : a.block < base) : OB (w.setCell a u) base v zs := by
  refine ⟨?_, h.2⟩
  obtain ⟨hl, h0 | ⟨g, cap, cur, hv, hg, hh, h1, h2, h3, h4⟩⟩ := h.1
  · exact ⟨hl, .inl h0⟩
  · exact ⟨hl, .inr ⟨g, cap, cur, hv, hg, Blk.other (w := w) hh a u (by omega), h1, h2, h3, h4⟩⟩
theorem OB.lt {w : World} {base : Nat} {v : Value} {zs : List Int} (h : OB w base v zs) : ∀ k, v.ownBlock = some k → base ≤ k ∧ k < w.heap.size := h.1.lt
theorem OB.bs {w : World} {base n cap : Nat} {a : Option Addr} {zs : List Int} (h : OB w base (.slice a n cap) zs) : BS w a n cap zs := by
  obtain ⟨hl, ⟨h0, h0'⟩ | ⟨g, cap', cur, hv, hg, hh, h1, h2, h3, h4⟩⟩ := h.1
  · simp at h0
    obtain ⟨rfl, rfl, rfl⟩ := h0
    exact ⟨h0', Nat.zero_le _, h.2, fun hn => absurd rfl hn, Nat.le_refl _⟩
  · simp at hv
    obtain ⟨rfl, rfl, rfl⟩ := hv
    refine ⟨rfl, by omega, h.2, fun hn => ⟨g, 0, rfl, fun i hi => ?_⟩, h1⟩
    rw [Nat.zero_add, Blk.cell (w := w) hh]
    have : cur.toList[i]? = (zs.map (Value.int .u8))[i]? := by
      rw [← h4, List.getElem?_take, if_pos (by omega)]
    rw [Array.getElem?_toList] at this
    rw [this]
    simp [List.getD_eq_getElem?_getD, hi]
def bt (v : Int) (j : Nat) : Int := v / (256:Int)^j % 256
def putW (w : World) (g k : Nat) (v : Int) : Nat → World
  | 0 => w
  | j + 1 => (putW w g k v j).setCell ⟨g, k + j, none⟩ (.int .u8 (bt v j))
def put (zs : List Int) (k : Nat) (v : Int) : Nat → List Int
  | 0 => zs
  | j + 1 => (put zs k v j).set (k + j) (bt v j)
theorem bt_range (v : Int) (j : Nat) : 0 ≤ bt v j ∧ bt v j ≤ 255 := by unfold bt; omega
theorem bt_succ (v : Int) (j : Nat) : v / (256:Int)^j / 256 = v / (256:Int)^(j+1) := by
  rw [Int.pow_succ, Int.ediv_ediv_of_nonneg (Int.le_of_lt (Int.pow_pos (by omega)))]
def Room (w : World) (g n : Nat) : Prop := ∃ cur, Blk w g cur 5 ∧ n ≤ cur.size
theorem Room.cell {w : World} {g n : Nat} (h : Room w g n) (i : Nat) (hi : i < n) : ∃ u, w.cell? ⟨g, i, none⟩ = some u := by
  obtain ⟨cur, hb, hn⟩ := h
  rw [hb.cell]
  exact ⟨cur[i], by simp⟩
theorem Room.frozen {w : World} {g n : Nat} (h : Room w g n) (i : Nat) : w.frozen? ⟨g, i, none⟩ = false := by
  obtain ⟨cur, hb, hn⟩ := h
  exact hb.frozen i
theorem Room.set {w : World} {g n : Nat} (h : Room w g n) (i : Nat) (u : Value) : Room (w.setCell ⟨g, i, none⟩ u) g n := by
  obtain ⟨cur, hb, hn⟩ := h
  exact ⟨_, hb.set i u, by simpa using hn⟩
theorem Room.put {w : World} {g n : Nat} (h : Room w g n) (k : Nat) (v : Int) : ∀ j, Room (putW w g k v j) g n
  | 0 => h
  | j + 1 => (Room.put h k v j).set (k + j) _
set_option maxHeartbeats 1000000 in
theorem l1Put_any (g n cap k : Nat) (s v : Int) (w : World) (h : Room w g n) (hn : n ≤ 16384) (hs1 : 1 ≤ s) (hs : s ≤ 4) (hk : (k : Int) + s ≤ n) (hv0 : 0 ≤ v) (hv1 : v ≤ 4294967295) :
    Calls Try.prog 88 #[.slice (some ⟨g, 0, none⟩) n cap, .int .i64 k, .int .i64 s, .int .i64 v] w fun e w' => e = .returned (.tuple #[]) ∧ w' = putW w g k v s.toNat := by
  go_enter Try.func88, Try.ntmps88
  go_wp2
  go_loopw [3, 8] (fun x i wr => ∃ j : Nat, (j : Int) ≤ s ∧ i = .int .i64 j ∧ x = .int .i64 (v / (256:Int)^j) ∧ wr = putW w g k v j) (fun _ i _ => s.toNat - (intOf i).toNat)
  case atStart => exact ⟨0, by omega, rfl, by simp, rfl⟩
  case round =>
    obtain ⟨j, hj, rfl, rfl, rfl⟩ := hrel
    by_cases hlt : (j : Int) < s
    · have hR := h.put k v j
      obtain ⟨u, hu⟩ := hR.cell (k + j) (by omega)
      have hf := hR.frozen (k + j)
      have hp : 0 < (256:Int)^j := Int.pow_pos (by omega)
      have hq0 : 0 ≤ v / (256:Int)^j := Int.ediv_nonneg hv0 (by omega)
      have hq1 : v / (256:Int)^j ≤ v := Int.ediv_le_self _ hv0
      have HS := hide (bt_succ v j)
      have hW : putW w g k v (j + 1) = (putW w g k v j).setCell ⟨g, k + j, none⟩ (.int .u8 (v / (256:Int)^j % 256)) := rfl
      have HW := hide hW
      clear hW hR hp
      generalize putW w g k v j = W at *
      generalize v / (256:Int)^j = q at *
      go_wp2
      go_roundw
      case rel => exact ⟨j + 1, by omega, by go_num, by rw [HS.out], HW.out.symm⟩
      case measure => simp [intOf]; omega
    · have hjs : s.toNat = j := by omega
      have HJ := hide hjs
      clear hjs
      generalize v / (256:Int)^j = q at *
      go_wp2
      go_end0
      exact ⟨rfl, by rw [HJ.out]⟩
def putD4 (w : World) (g k : Nat) (v : Int) : World :=
  (((w.setCell ⟨g, k + 3, none⟩ (.int .u8 (bt v 3))).setCell ⟨g, k + 2, none⟩ (.int .u8 (bt v 2))).setCell ⟨g, k + 1, none⟩ (.int .u8 (bt v 1))).setCell ⟨g, k, none⟩ (.int .u8 (bt v 0))
def putD2 (w : World) (g k : Nat) (v : Int) : World := (w.setCell ⟨g, k + 1, none⟩ (.int .u8 (bt v 1))).setCell ⟨g, k, none⟩ (.int .u8 (bt v 0))
def putD1 (w : World) (g k : Nat) (v : Int) : World := w.setCell ⟨g, k, none⟩ (.int .u8 (bt v 0))
theorem bt0 (v : Int) : bt v 0 = v % 256 := by unfold bt; simp
theorem bt1 (v : Int) : bt v 1 = v / 256 % 256 := by unfold bt; simp
theorem bt2 (v : Int) : bt v 2 = v / 65536 % 256 := by unfold bt; rw [show (256:Int)^2 = 65536 from rfl]
theorem bt3 (v : Int) : bt v 3 = v / 16777216 % 256 := by unfold bt; rw [show (256:Int)^3 = 16777216 from rfl]
set_option maxHeartbeats 1000000 in
theorem putBytes_4 (g n cap k : Nat) (v : Int) (w : World) (h : Room w g (k + 4)) (hn : 4 ≤ n) (hv : -9223372036854775808 ≤ v ∧ v ≤ 9223372036854775807) :
    Calls Try.prog 99 #[.slice (some ⟨g, k, none⟩) n cap, .int .i64 4, .int .i64 v] w fun e w' => e = .returned (.tuple #[]) ∧ w' = putD4 w g k v := by
  obtain ⟨u0, c0⟩ := h.cell k (by omega)
  obtain ⟨u1, c1⟩ := h.cell (k + 1) (by omega)
  obtain ⟨u2, c2⟩ := h.cell (k + 2) (by omega)
  obtain ⟨u3, c3⟩ := h.cell (k + 3) (by omega)
  have hf : ∀ i, w.frozen? ⟨g, i, none⟩ = false := h.frozen
  have hl : (3 : Int) < (n : Int) := by omega
  obtain ⟨hv0, hv1⟩ := hv
  have HP := hide (show putD4 w g k v = putD4 w g k v from rfl)
  unfold putD4
  rw [bt3, bt2, bt1, bt0]
  go_enter Try.func99, Try.ntmps99
  go_wp2
  go_end0
  exact ⟨rfl, rfl⟩
set_option maxHeartbeats 1000000 in
theorem putBytes_2 (g n cap k : Nat) (v : Int) (w : World) (h : Room w g (k + 2)) (hn : 2 ≤ n) (hv : -9223372036854775808 ≤ v ∧ v ≤ 9223372036854775807) :
    Calls Try.prog 99 #[.slice (some ⟨g, k, none⟩) n cap, .int .i64 2, .int .i64 v] w fun e w' => e = .returned (.tuple #[]) ∧ w' = putD2 w g k v := by
  obtain ⟨u0, c0⟩ := h.cell k (by omega)
  obtain ⟨u1, c1⟩ := h.cell (k + 1) (by omega)
  have hf : ∀ i, w.frozen? ⟨g, i, none⟩ = false := h.frozen
  have hl : (1 : Int) < (n : Int) := by omega
  obtain ⟨hv0, hv1⟩ := hv
  have HP := hide (show putD2 w g k v = putD2 w g k v from rfl)
  unfold putD2
  rw [bt1, bt0]
  go_enter Try.func99, Try.ntmps99
  go_wp2
  go_end0
  exact ⟨rfl, rfl⟩
set_option maxHeartbeats 1000000 in
theorem putBytes_1 (g n cap k : Nat) (v : Int) (w : World) (h : Room w g (k + 1)) (hn : 1 ≤ n) (hv : -9223372036854775808 ≤ v ∧ v ≤ 9223372036854775807) :
    Calls Try.prog 99 #[.slice (some ⟨g, k, none⟩) n cap, .int .i64 1, .int .i64 v] w fun e w' => e = .returned (.tuple #[]) ∧ w' = putD1 w g k v := by
  obtain ⟨u0, c0⟩ := h.cell k (by omega)
  have hf : ∀ i, w.frozen? ⟨g, i, none⟩ = false := h.frozen
  have hl : (0 : Int) < (n : Int) := by omega
  obtain ⟨hv0, hv1⟩ := hv
  have HP := hide (show putD1 w g k v = putD1 w g k v from rfl)
  unfold putD1
  rw [bt0]
  go_enter Try.func99, Try.ntmps99
  go_wp2
  go_end0
  exact ⟨rfl, rfl⟩
theorem put_desc4 (zs : List Int) (k : Nat) (v : Int) : put zs k v 4 = (((zs.set (k + 3) (bt v 3)).set (k + 2) (bt v 2)).set (k + 1) (bt v 1)).set k (bt v 0) := by
  simp only [put, Nat.add_zero]
  rw [List.set_comm _ _ (show k ≠ k + 1 by omega), List.set_comm _ _ (show k ≠ k + 2 by omega), List.set_comm _ _ (show k ≠ k + 3 by omega)]
  congr 1
  rw [List.set_comm _ _ (show k + 1 ≠ k + 2 by omega), List.set_comm _ _ (show k + 1 ≠ k + 3 by omega)]
  congr 1
  rw [List.set_comm _ _ (show k + 2 ≠ k + 3 by omega)]
theorem put_desc2 (zs : List Int) (k : Nat) (v : Int) : put zs k v 2 = (zs.set (k + 1) (bt v 1)).set k (bt v 0) := by
  simp only [put, Nat.add_zero]
  rw [List.set_comm _ _ (show k ≠ k + 1 by omega)]
theorem ob_set {w : World} {base g n cap : Nat} {zs : List Int} (h : OB w base (.slice (some ⟨g, 0, none⟩) n cap) zs) (i : Nat) (hi : i < n) (z : Int) (hz : 0 ≤ z ∧ z ≤ 255) : OB (w.setCell ⟨g, i, none⟩ (.int .u8 z)) base (.slice (some ⟨g, 0, none⟩) n cap) (zs.set i z) := by
  obtain ⟨⟨hl, h0 | ⟨g', cap', cur, hv, hg, hh, h1, h2, h3, h4⟩⟩, hr⟩ := h
  · simp at h0
  · simp at hv
    obtain ⟨rfl, rfl, rfl⟩ := hv
    refine ⟨⟨by simp, .inr ⟨g, cap, cur.setIfInBounds i (.int .u8 z), by simp, hg, Blk.set (w := w) hh i _, by simpa using h1, h2, by simpa using h3, ?_⟩⟩, ?_⟩
    · rw [List.length_set, Array.toList_setIfInBounds, List.take_set, h4, List.map_set]
    · intro y hy
      rcases List.mem_or_eq_of_mem_set hy with hy | rfl
      · exact hr y hy
      · exact hz
theorem ob_put {w : World} {base g n cap : Nat} {zs : List Int} (h : OB w base (.slice (some ⟨g, 0, none⟩) n cap) zs) (k : Nat) (v : Int) : ∀ j, k + j ≤ n → OB (putW w g k v j) base (.slice (some ⟨g, 0, none⟩) n cap) (put zs k v j)
  | 0, _ => h
  | j + 1, hj => ob_set (ob_put h k v j (by omega)) (k + j) (by omega) _ (bt_range v j)
theorem ob_putD4 {w : World} {base g n cap : Nat} {zs : List Int} (h : OB w base (.slice (some ⟨g, 0, none⟩) n cap) zs) (k : Nat) (v : Int) (hk : k + 4 ≤ n) : OB (putD4 w g k v) base (.slice (some ⟨g, 0, none⟩) n cap) (put zs k v 4) := by
  rw [put_desc4]
  exact ob_set (ob_set (ob_set (ob_set h (k + 3) (by omega) _ (bt_range v 3)) (k + 2) (by omega) _ (bt_range v 2)) (k + 1) (by omega) _ (bt_range v 1)) k (by omega) _ (bt_range v 0)
theorem ob_putD2 {w : World} {base g n cap : Nat} {zs : List Int} (h : OB w base (.slice (some ⟨g, 0, none⟩) n cap) zs) (k : Nat) (v : Int) (hk : k + 2 ≤ n) : OB (putD2 w g k v) base (.slice (some ⟨g, 0, none⟩) n cap) (put zs k v 2) := by
  rw [put_desc2]
  exact ob_set (ob_set h (k + 1) (by omega) _ (bt_range v 1)) k (by omega) _ (bt_range v 0)
theorem ob_putD1 {w : World} {base g n cap : Nat} {zs : List Int} (h : OB w base (.slice (some ⟨g, 0, none⟩) n cap) zs) (k : Nat) (v : Int) (hk : k + 1 ≤ n) : OB (putD1 w g k v) base (.slice (some ⟨g, 0, none⟩) n cap) (put zs k v 1) :=
  ob_set h k (by omega) _ (bt_range v 0)
theorem ob_room {w : World} {base g n cap : Nat} {zs : List Int} (h : OB w base (.slice (some ⟨g, 0, none⟩) n cap) zs) : Room w g n := by
  obtain ⟨⟨hl, h0 | ⟨g', cap', cur, hv, hg, hh, h1, h2, h3, h4⟩⟩, hr⟩ := h
  · simp at h0
  · simp at hv
    obtain ⟨rfl, rfl, rfl⟩ := hv
    exact ⟨cur, hh, by omega⟩
def Only (g : Nat) (w w' : World) : Prop := w'.heap.size = w.heap.size ∧ (∀ k, k ≠ g → w'.heap[k]? = w.heap[k]?) ∧ w'.os = w.os ∧ w'.tape = w.tape ∧ w'.output = w.output
theorem only_refl (g : Nat) (w : World) : Only g w w := ⟨rfl, fun _ _ => rfl, rfl, rfl, rfl⟩
theorem only_set {g : Nat} {w w' : World} (h : Only g w w') (i : Nat) (u : Value) : Only g w (w'.setCell ⟨g, i, none⟩ u) :=
  ⟨by rw [size_setCell]; exact h.1, fun k hk => by rw [heap_setCell_other _ _ _ _ hk]; exact h.2.1 k hk, h.2.2.1, h.2.2.2.1, h.2.2.2.2⟩
theorem only_put (g k : Nat) (v : Int) (w : World) : ∀ j, Only g w (putW w g k v j)
  | 0 => only_refl g w
  | j + 1 => only_set (only_put g k v w j) (k + j) _
theorem only_putD4 (g k : Nat) (v : Int) (w : World) : Only g w (putD4 w g k v) := only_set (only_set (only_set (only_set (only_refl g w) _ _) _ _) _ _) _ _
theorem only_putD2 (g k : Nat) (v : Int) (w : World) : Only g w (putD2 w g k v) := only_set (only_set (only_refl g w) _ _) _ _
theorem only_putD1 (g k : Nat) (v : Int) (w : World) : Only g w (putD1 w g k v) := only_set (only_refl g w) _ _
theorem only_below {B g : Nat} {a w w' : World} (h : Below B a w) (ho : Only g w w') (hg : B ≤ g) : Below B a w' :=
  ⟨ho.2.2.1.trans h.os, ho.2.2.2.1.trans h.tape, ho.2.2.2.2.trans h.output, by rw [ho.1]; exact h.size, fun k hk => (ho.2.1 k (by omega)).trans (h.block k hk)⟩
theorem only_blk {g k : Nat} {w w' : World} {cs : Array Value} {t : TypeId} (ho : Only g w w') (h : Blk w k cs t) (hk : k ≠ g) : Blk w' k cs t := by
  unfold Blk at *; rw [ho.2.1 k hk]; exact h
theorem ob_far {w : World} {base g : Nat} {v : Value} {zs : List Int} (h : OB w base v zs) (a : Addr) (u : Value) (ha : v.ownBlock ≠ some a.block) : OB (w.setCell a u) base v zs := by
  refine ⟨?_, h.2⟩
  obtain ⟨hl, h0 | ⟨g', cap, cur, rfl, hg, hh, h1, h2, h3, h4⟩⟩ := h.1
  · exact ⟨hl, .inl h0⟩
  · exact ⟨hl, .inr ⟨g', cap, cur, rfl, hg, Blk.other (w := w) hh a u (by intro e; apply ha; rw [← e]; rfl), h1, h2, h3, h4⟩⟩
theorem grown_blk {w w' : World} {row : Option Nat} {k : Nat} {cs : Array Value} {t : TypeId} (hg : w.grownBy w' row) (h : Blk w k cs t) (hk : some k ≠ row) : Blk w' k cs t := by
  have := hg.block k h.lt hk
  unfold Blk at *; rw [this]; exact h
theorem turn_ob {S : Nat → Prop} {base : Nat} {w w' : World} {v : Value} {zs : List Int} (ht : Turn S w w') (h : OB w base v zs) (hk : ∀ k, v.ownBlock = some k → ¬ S k) : OB w' base v zs := by
  refine ⟨?_, h.2⟩
  obtain ⟨hl, h0 | ⟨g', cap, cur, rfl, hg, hh, h1, h2, h3, h4⟩⟩ := h.1
  · exact ⟨hl, .inl h0⟩
  · exact ⟨hl, .inr ⟨g', cap, cur, rfl, hg, turn_blk ht hh (hk g' rfl), h1, h2, h3, h4⟩⟩
end Go.Proofs.Ytngdgogjlpjjpad
namespace Go.Proofs.Ytngdgogjlpjjpad
open Go.RowKit
set_option linter.unusedVariables false
set_option linter.unusedSimpArgs false
set_option maxRecDepth 100000
def encN (v : Int) (s : Nat) : List Int := (List.range s).map (bt v)
theorem encN_len (v : Int) (s : Nat) : (encN v s).length = s := by simp [encN]
theorem encN_range (v : Int) (s : Nat) : ∀ z ∈ encN v s, 0 ≤ z ∧ z ≤ 255 := by
  intro z hz
  simp only [encN, List.mem_map] at hz
  obtain ⟨j, _, rfl⟩ := hz
  exact bt_range v j
theorem put_enc (v : Int) : ∀ s, s ≤ 4 → put (List.replicate s 0) 0 v s = encN v s
  | 0, _ => rfl
  | 1, _ => rfl
  | 2, _ => rfl
  | 3, _ => rfl
  | 4, _ => rfl
  | s + 5, h => by omega
theorem row_obE {w : World} {g base n : Nat} {zs : List Int} (h : Row8 w g zs) (hb : base ≤ g) (hn : zs.length = n) (hm : n ≤ maxLen) (hr : ∀ z ∈ zs, 0 ≤ z ∧ z ≤ 255) : OB w base (.slice (some ⟨g, 0, none⟩) n n) zs := by
  subst hn
  exact ⟨⟨by simp, .inr ⟨g, zs.length, _, rfl, hb, h, Nat.le_refl _, hm, by simp, by rw [List.take_of_length_le (by simp)]⟩⟩, hr⟩
set_option maxHeartbeats 1000000 in
theorem l4Num_any (v : Int) (s : Nat) (w : World) (hs : s = 1 ∨ s = 2 ∨ s = 4) (h0 : 0 ≤ v) (h1 : v ≤ 4294967295) :
    Calls Try.prog 45 #[.int .i64 v, .int .i64 s] w fun e w' => e = .returned (.slice (some ⟨w.heap.size, 0, none⟩) s s) ∧ OB w' w.heap.size (.slice (some ⟨w.heap.size, 0, none⟩) s s) (encN v s) ∧ Below w.heap.size w w' := by
  obtain ⟨i0, hi, hz0, hz1, hz2⟩ := info_parts info8
  have hs4 : s ≤ 4 := by omega
  have hs1 : 1 ≤ s := by omega
  clear hs
  go_enter Try.func45, Try.ntmps45
  go_wp2_with (at_make; refine wpList_make_full _ rfl _ _ 22 rfl w.heap.size 5 i0 (.int .u8 0) 1 Try.underlying22 hi hz0 hz1 .i64 .i64 _ _ s rfl rfl rfl rfl (by rw [hz2]; omega) (by unfold maxLen; omega) (Nat.le_refl _) ?_; intro w1 hown hgr)
  have hrow := row_of_made hown
  have hbel := below_grown hgr
  clear hown hgr hi hz0 hz1 hz2
  have ho := row_obE (n := s) hrow (Nat.le_refl w.heap.size) (by simp) (by unfold maxLen; omega) (by intro z hz; simp at hz; omega)
  go_wp2_with fail
  refine (l1Put_any w.heap.size s s 0 s v w1 (ob_room ho) (by omega) (by omega) (by omega) (by omega) h0 h1).mono ?_
  rintro e w2 ⟨rfl, rfl⟩
  have hp := ob_put ho 0 v s (by omega)
  rw [put_enc v s hs4] at hp
  have hbp := only_below hbel (only_put w.heap.size 0 v w1 s) (Nat.le_refl _)
  have HX := hide (And.intro hp hbp)
  clear hp hbp ho hbel hrow
  have e : (s : Int).toNat = s := by omega
  rw [e]
  generalize putW w1 w.heap.size 0 v s = W at *
  go_wp2
  go_ret
  exact ⟨rfl, HX.out.1, HX.out.2⟩
end Go.Proofs.Ytngdgogjlpjjpad
namespace Go.Proofs.Ytngdgogjlpjjpad
open Go.RowKit
set_option linter.unusedVariables false
theorem wrap_small (x : Int) (h0 : -4611686018427387904 ≤ x) (h1 : x ≤ 4611686018427387903) : IntKind.i64.wrap x = x := by
  unfold IntKind.wrap
  simp [IntKind.bits, IntKind.signed]
  omega
end Go.Proofs.Ytngdgogjlpjjpad
namespace Go.Proofs.Ytngdgogjlpjjpad
open Go.RowKit
set_option linter.unusedVariables false
set_option linter.unusedSimpArgs false
set_option maxRecDepth 100000
def Shp (w w' : World) : Prop := ∀ g cs t, Blk w g cs t → ∃ cs' : Array Value, Blk w' g cs' t ∧ cs'.size = cs.size
theorem Shp.refl (w : World) : Shp w w := fun g cs t h => ⟨cs, h, rfl⟩
theorem Shp.trans {a b c : World} (h : Shp a b) (k : Shp b c) : Shp a c := fun g cs t hb => by
  obtain ⟨c1, h1, e1⟩ := h g cs t hb
  obtain ⟨c2, h2, e2⟩ := k g c1 t h1
  exact ⟨c2, h2, e2.trans e1⟩
theorem Shp.below {w w' : World} (h : Below w.heap.size w w') : Shp w w' := fun g cs t hb => ⟨cs, hb.below h, rfl⟩
theorem Shp.set (w : World) (k i : Nat) (v : Value) : Shp w (w.setCell ⟨k, i, none⟩ v) := fun g cs t hb => by
  by_cases e : g = k
  · subst e
    exact ⟨_, hb.set i v, by simp⟩
  · exact ⟨cs, hb.other _ _ e, rfl⟩
structure Mkd (S : Nat → Prop) (w w' : World) : Prop where
  turn : Turn S w w'
  shp : Shp w w'
theorem Mkd.refl (S : Nat → Prop) (w : World) : Mkd S w w := ⟨Turn.refl _ _, Shp.refl _⟩
theorem Mkd.trans {S : Nat → Prop} {a b c : World} (h : Mkd S a b) (k : Mkd S b c) : Mkd S a c := ⟨h.turn.trans k.turn, h.shp.trans k.shp⟩
theorem Mkd.below {S : Nat → Prop} {w w' : World} (h : Below w.heap.size w w') : Mkd S w w' := ⟨turn_below h, Shp.below h⟩
theorem Mkd.set {S : Nat → Prop} {w w' : World} (h : Mkd S w w') (k i : Nat) (v : Value) (hk : S k) : Mkd S w (w'.setCell ⟨k, i, none⟩ v) :=
  h.trans ⟨⟨rfl, rfl, rfl, by rw [size_setCell]; exact Nat.le_refl _, fun j _ hj => heap_setCell_other _ _ _ _ (fun e => hj (by rw [e]; exact hk))⟩, Shp.set _ _ _ _⟩
theorem Mkd.mono {S S' : Nat → Prop} {w w' : World} (h : Mkd S w w') (hs : ∀ k, S k → S' k) : Mkd S' w w' := ⟨h.turn.mono hs, h.shp⟩
def Sl (S : Nat → Prop) (w : World) (a : Option Addr) (n sz : Nat) : Prop := n ≠ 0 → ∃ g o cs t, a = some ⟨g, o, none⟩ ∧ S g ∧ Blk w g cs t ∧ o + n * sz ≤ cs.size
theorem Sl.shp {S : Nat → Prop} {w w' : World} {a : Option Addr} {n sz : Nat} (h : Sl S w a n sz) (m : Shp w w') : Sl S w' a n sz := fun hn => by
  obtain ⟨g, o, cs, t, ha, hs, hb, hl⟩ := h hn
  obtain ⟨cs', hb', e⟩ := m g cs t hb
  exact ⟨g, o, cs', t, ha, hs, hb', by omega⟩
theorem Sl.cell {S : Nat → Prop} {w : World} {g o n sz : Nat} (h : Sl S w (some ⟨g, o, none⟩) n sz) (hn : n ≠ 0) (i : Nat) (hi : i < n * sz) : (∃ u, w.cell? ⟨g, o + i, none⟩ = some u) ∧ w.frozen? ⟨g, o + i, none⟩ = false ∧ S g := by
  obtain ⟨g', o', cs, t, ha, hs, hb, hl⟩ := h hn
  simp at ha
  obtain ⟨rfl, rfl⟩ := ha
  exact ⟨⟨cs[o + i]'(by omega), by rw [hb.cell]; simp [show o + i < cs.size by omega]⟩, hb.frozen _, hs⟩
theorem Sl.addr {S : Nat → Prop} {w : World} {a : Option Addr} {n sz : Nat} (h : Sl S w a n sz) (hn : n ≠ 0) : ∃ g o, a = some ⟨g, o, none⟩ := by
  obtain ⟨g, o, _, _, ha, _⟩ := h hn
  exact ⟨g, o, ha⟩
structure SlB (S : Nat → Prop) (w : World) (a : Option Addr) (n : Nat) (f : Nat → Option Addr × Nat × Nat) : Prop where
  head : n ≠ 0 → ∃ g o cs t, a = some ⟨g, o, none⟩ ∧ ¬ S g ∧ Blk w g cs t ∧ ∀ i, i < n → cs[o + i]? = some (.slice (f i).1 (f i).2.1 (f i).2.2)
  rows : ∀ i, i < n → Sl S w (f i).1 (f i).2.1 1
theorem SlB.kept {S : Nat → Prop} {w w' : World} {a : Option Addr} {n : Nat} {f : Nat → Option Addr × Nat × Nat} (h : SlB S w a n f) (m : Mkd S w w') : SlB S w' a n f :=
  ⟨fun hn => by obtain ⟨g, o, cs, t, ha, hs, hb, hl⟩ := h.head hn; exact ⟨g, o, cs, t, ha, hs, turn_blk m.turn hb hs, hl⟩, fun i hi => (h.rows i hi).shp m.shp⟩
def sumB (f : Nat → Option Addr × Nat × Nat) : Nat → Nat
  | 0 => 0
  | n + 1 => sumB f n + (f n).2.1
end Go.Proofs.Ytngdgogjlpjjpad
