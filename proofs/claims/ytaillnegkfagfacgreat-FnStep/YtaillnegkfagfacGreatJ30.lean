import Derived.Test.YtaillnegkfagfacGreatJ23
import Derived.Test.YtaillnegkfagfacGreatJ24
import Derived.Test.YtaillnegkfagfacGreatJ25
import Derived.Test.YtaillnegkfagfacGreatJ26
import Derived.Test.YtaillnegkfagfacGreatJ27
import Derived.Test.YtaillnegkfagfacGreatJ28
import Derived.Test.YtaillnegkfagfacGreatJ29
import Derived.Test.YtaillnegkfagfacGreatJ22
namespace Go.Proofs.YtaillnegkfagfacGreat
open Go.RowKit
set_option linter.unusedVariables false

theorem l3Ins_fn (zs : List Int) (k : Nat) (hz : ∀ j, 0 ≤ zs.getD j 0 ∧ zs.getD j 0 ≤ 255) :
    ∃ (o d x i : Int) (k' : Nat), (-1 ≤ o ∧ o ≤ 64 ∧ -1 ≤ d ∧ d ≤ 10 ∧ -1 ≤ x ∧ x ≤ 10 ∧ -1 ≤ i ∧ i ≤ 65536) ∧ ∀ (r : Nat) (a : Option Addr) (n c : Nat) (w : World) (h : Rdr w r a n c zs k) (hcode : n ≠ 0 → ∀ b off, a = some ⟨b, off, none⟩ → b < w.heap.size), Calls Tryz.prog 37 #[.pointer (some ⟨r, 0, none⟩)] w (InsDr w r a n c zs o d x i k') := by
  obtain ⟨v1, E1, z0, z0'⟩ := draw_of hz k
  obtain ⟨op, ho1, ho2, hop⟩ := opTab_at (v1 % 25).toNat (by omega)
  have HOP := hide hop
  clear hop
  refine ⟨op, ?_⟩
  by_cases hu3 : us op = 3
  · exact l3Ins_u3 zs k hz v1 E1 z0 z0' op ho1 ho2 hu3 HOP
  by_cases hu0 : us op = 0
  · exact l3Ins_u0 zs k hz v1 E1 z0 z0' op ho1 ho2 hu0 HOP
  rcases op_cases op with h' | h' | rfl | rfl | rfl | rfl | rfl | rfl | rfl | rfl | rfl | rfl | rfl | rfl | rfl | rfl | rfl | rfl | rfl | rfl | rfl | rfl | rfl | rfl | rfl | rfl | rfl
  · omega
  · omega
  · exact absurd (by decide) hu0
  · exact l3Ins_2 zs k hz v1 E1 z0 z0' HOP
  · exact l3Ins_3 zs k hz v1 E1 z0 z0' HOP
  · exact absurd (by decide) hu3
  · exact absurd (by decide) hu3
  · exact l3Ins_6 zs k hz v1 E1 z0 z0' HOP
  · exact absurd (by decide) hu3
  · exact absurd (by decide) hu3
  · exact absurd (by decide) hu3
  · exact absurd (by decide) hu3
  · exact absurd (by decide) hu3
  · exact absurd (by decide) hu3
  · exact absurd (by decide) hu3
  · exact l3Ins_14 zs k hz v1 E1 z0 z0' HOP
  · exact l3Ins_15 zs k hz v1 E1 z0 z0' HOP
  · exact l3Ins_16 zs k hz v1 E1 z0 z0' HOP
  · exact l3Ins_17 zs k hz v1 E1 z0 z0' HOP
  · exact l3Ins_18 zs k hz v1 E1 z0 z0' HOP
  · exact l3Ins_19 zs k hz v1 E1 z0 z0' HOP
  · exact l3Ins_20 zs k hz v1 E1 z0 z0' HOP
  · exact l3Ins_21 zs k hz v1 E1 z0 z0' HOP
  · exact l3Ins_22 zs k hz v1 E1 z0 z0' HOP
  · exact l3Ins_23 zs k hz v1 E1 z0 z0' HOP
  · exact l3Ins_24 zs k hz v1 E1 z0 z0' HOP
  · exact absurd (by decide) hu0
def InsDx (w : World) (r : Nat) (a : Option Addr) (n c : Nat) (zs : List Int) (e : Ending) (w' : World) : Prop :=
  ∃ (o d x i : Int) (k' : Nat), e = .returned (.agg #[.int .i64 o, .int .i64 d, .int .i64 x, .int .i64 i]) ∧ (-1 ≤ o ∧ o ≤ 64 ∧ -1 ≤ d ∧ d ≤ 10 ∧ -1 ≤ x ∧ x ≤ 10 ∧ -1 ≤ i ∧ i ≤ 65536) ∧ Rdr w' r a n c zs k' ∧ Turn (fun j => j = r) w w'
theorem l3Ins_any (r : Nat) (a : Option Addr) (n c : Nat) (zs : List Int) (k : Nat) (w : World) (h : Rdr w r a n c zs k) (hcode : n ≠ 0 → ∀ b off, a = some ⟨b, off, none⟩ → b < w.heap.size) :
    Calls Tryz.prog 37 #[.pointer (some ⟨r, 0, none⟩)] w (InsDx w r a n c zs) := by
  obtain ⟨o, d, x, i, k', hb, hc⟩ := l3Ins_fn zs k (fun j => h.bs.range j)
  exact (hc r a n c w h hcode).mono fun e w' ⟨he, hr, ht⟩ => ⟨o, d, x, i, k', he, hb, hr, ht⟩
end Go.Proofs.YtaillnegkfagfacGreat

namespace Go.Proofs.YtaillnegkfagfacGreat
open Go.RowKit
set_option linter.unusedVariables false
set_option linter.unusedSimpArgs false
set_option maxRecDepth 100000

def DrQ (w : World) (r : Nat) (a : Option Addr) (n c : Nat) (zs : List Int) (g1 g2 g3 : Int) (g4 g5 g6 : Bool) (k' : Nat) (e : Ending) (w' : World) : Prop :=
  e = .returned (.agg #[.int .i64 g1, .int .i64 g2, .int .i64 g3, .bool g4, .bool g5, .bool g6]) ∧ Rdr w' r a n c zs k' ∧ Turn (fun j => j = r) w w'
/-- l2Region AS A FUNCTION OF THE CODE. -/
def RegFn (zs : List Int) (k : Nat) : Prop :=
  ∃ (g1 g2 g3 : Int) (g4 g5 g6 : Bool) (k' : Nat), (wfi g1 ∧ wfi g2 ∧ wfi g3) ∧ ∀ (r : Nat) (a : Option Addr) (n c : Nat) (w : World) (h : Rdr w r a n c zs k) (hcode : n ≠ 0 → ∀ b off, a = some ⟨b, off, none⟩ → b < w.heap.size), Calls Tryz.prog 14 #[.pointer (some ⟨r, 0, none⟩)] w (DrQ w r a n c zs g1 g2 g3 g4 g5 g6 k')
theorem region_endq (w w2 : World) (r : Nat) (a : Option Addr) (n c : Nat) (zs : List Int) (k' : Nat) (tmps : Array Value) (O : Obj) (x0 x1 x2 : Int) (y0 y1 y2 : Bool)
    (ht : tmps[2]? = some (.pointer (some ⟨w.heap.size, 0, none⟩))) (hat : At6 w2 w.heap.size 0 z6) (hR : Rdr w2 r a n c zs k') (hT : Turn (fun j => j = r) w w2) (hr : r ≠ w.heap.size) (hc : Hid (n ≠ 0 → ∀ b off, a = some ⟨b, off, none⟩ → b < w.heap.size)) :
    bodyPost Tryz.prog Tryz.f14 (DrQ w r a n c zs x0 x1 x2 y0 y1 y2 k') Exit.ret ⟨tmps, []⟩ ((set6 w2 w.heap.size 0 (x0, x1, x2, y0, y1, y2)).alloc O) := by
  have q := set6_at hat (x0, x1, x2, y0, y1, y2)
  have hlt : w.heap.size < (set6 w2 w.heap.size 0 (x0, x1, x2, y0, y1, y2)).heap.size := World.block_lt_of_cell? _ _ q.1
  have q' := q.below ((Below.refl _ _).alloc (Nat.le_refl _) O)
  have hT' : Turn (fun j => j = r) w (set6 w2 w.heap.size 0 (x0, x1, x2, y0, y1, y2)) := turn_new (turn_new (turn_new (turn_new (turn_new (turn_new hT (Nat.le_refl _) _ _) (Nat.le_refl _) _ _) (Nat.le_refl _) _ _) (Nat.le_refl _) _ _) (Nat.le_refl _) _ _) (Nat.le_refl _) _ _
  have hR' : Rdr (set6 w2 w.heap.size 0 (x0, x1, x2, y0, y1, y2)) r a n c zs k' := by
    have hc' : n ≠ 0 → ∀ b' off, a = some ⟨b', off, none⟩ → b' ≠ w.heap.size := fun h b off e => by have := hc.out h b off e; omega
    exact rdr_set (rdr_set (rdr_set (rdr_set (rdr_set (rdr_set hR hr hc' _ _) hr hc' _ _) hr hc' _ _) hr hc' _ _) hr hc' _ _) hr hc' _ _
  have hT2 := turn_more hT' O
  have hR2 := rdr_alloc hR' O
  generalize (set6 w2 w.heap.size 0 (x0, x1, x2, y0, y1, y2)).alloc O = W at *
  refine bodyPost_ret_by (v := .agg #[.int .i64 x0, .int .i64 x1, .int .i64 x2, .bool y0, .bool y1, .bool y2]) ?_ rfl ⟨rfl, ?_, ?_⟩
  · obtain ⟨p1, p2, p3, p4, p5, p6⟩ := q'
    simp only [Nat.zero_add] at p2 p3 p4 p5 p6
    simp [results, Tryz.results14, go_sem, ht, p1, p2, p3, p4, p5, p6]
  · exact hR2
  · exact hT2
theorem region_endq0 (w w2 : World) (r : Nat) (a : Option Addr) (n c : Nat) (zs : List Int) (k' : Nat) (tmps : Array Value) (x0 x1 x2 : Int) (y0 y1 y2 : Bool)
    (ht : tmps[2]? = some (.pointer (some ⟨w.heap.size, 0, none⟩))) (hat : At6 w2 w.heap.size 0 z6) (hR : Rdr w2 r a n c zs k') (hT : Turn (fun j => j = r) w w2) (hr : r ≠ w.heap.size) (hc : Hid (n ≠ 0 → ∀ b off, a = some ⟨b, off, none⟩ → b < w.heap.size)) :
    bodyPost Tryz.prog Tryz.f14 (DrQ w r a n c zs x0 x1 x2 y0 y1 y2 k') Exit.ret ⟨tmps, []⟩ (set6 w2 w.heap.size 0 (x0, x1, x2, y0, y1, y2)) := by
  have q := set6_at hat (x0, x1, x2, y0, y1, y2)
  have hlt : w.heap.size < (set6 w2 w.heap.size 0 (x0, x1, x2, y0, y1, y2)).heap.size := World.block_lt_of_cell? _ _ q.1
  have q' := q
  have hT' : Turn (fun j => j = r) w (set6 w2 w.heap.size 0 (x0, x1, x2, y0, y1, y2)) := turn_new (turn_new (turn_new (turn_new (turn_new (turn_new hT (Nat.le_refl _) _ _) (Nat.le_refl _) _ _) (Nat.le_refl _) _ _) (Nat.le_refl _) _ _) (Nat.le_refl _) _ _) (Nat.le_refl _) _ _
  have hR' : Rdr (set6 w2 w.heap.size 0 (x0, x1, x2, y0, y1, y2)) r a n c zs k' := by
    have hc' : n ≠ 0 → ∀ b' off, a = some ⟨b', off, none⟩ → b' ≠ w.heap.size := fun h b off e => by have := hc.out h b off e; omega
    exact rdr_set (rdr_set (rdr_set (rdr_set (rdr_set (rdr_set hR hr hc' _ _) hr hc' _ _) hr hc' _ _) hr hc' _ _) hr hc' _ _) hr hc' _ _
  have hT2 := hT'
  have hR2 := hR'
  generalize set6 w2 w.heap.size 0 (x0, x1, x2, y0, y1, y2) = W at *
  refine bodyPost_ret_by (v := .agg #[.int .i64 x0, .int .i64 x1, .int .i64 x2, .bool y0, .bool y1, .bool y2]) ?_ rfl ⟨rfl, ?_, ?_⟩
  · obtain ⟨p1, p2, p3, p4, p5, p6⟩ := q'
    simp only [Nat.zero_add] at p2 p3 p4 p5 p6
    simp [results, Tryz.results14, go_sem, ht, p1, p2, p3, p4, p5, p6]
  · exact hR2
  · exact hT2

set_option maxHeartbeats 2000000 in
theorem reg_ln (zs : List Int) (k : Nat) (v1 v2 v3 L P X : Int) (b1 b2 b3 : Bool) (E1 : Hid (zs.getD k 0 = v1)) (E2 : Hid (zs.getD (k + 1) 0 = v2)) (E3 : Hid (zs.getD (k + 1 + 1) 0 = v3)) (z0 : 0 ≤ v1) (z0' : v1 ≤ 255) (z1 : 0 ≤ v2) (z1' : v2 ≤ 255) (z2 : 0 ≤ v3) (z2' : v3 ≤ 255)
    (HL : Hid (5 + v1 % 6 = L)) (hL5 : 5 ≤ L) (hL10 : L ≤ 10) (HP : Hid ((2:Int)^L.toNat = P)) (hp : P ≤ 1048576) (hp0 : 0 < P) (HB1 : Hid ((v2 % 2 == 1) = b1)) (HB2 : Hid ((v2 / 2 % 2 == 1) = b2)) (HB3 : Hid ((v2 / 4 % 3 == 0) = b3)) (HX : Hid (wrap64 ((v1 / 8 % 4 * 32 + v2 / 16 % 4 * 128) / P * P) = X)) (hX0 : -9223372036854775808 ≤ X) (hX1 : X ≤ 9223372036854775807)
    (h8 : L < 8) (h240 : v1 < 240) : RegFn zs k := by
  refine ⟨X, L, 0, b1, b2, b3, k + 1 + 1, ?hw, fun r a n c w h hcode => ?hc⟩
  case hc =>
    have hrw := h.blk.lt
    have T0 : Turn (fun j => j = r) w (w.alloc (.cells #[.int .i64 0, .int .i64 0, .int .i64 0, .bool false, .bool false, .bool false] 43)) := turn_alloc w _
    have kr0 := Blk.new w #[.int .i64 0, .int .i64 0, .int .i64 0, .bool false, .bool false, .bool false] 43
    have h0 := rdr_below h ((Below.refl w.heap.size w).alloc (Nat.le_refl _) (.cells #[.int .i64 0, .int .i64 0, .int .i64 0, .bool false, .bool false, .bool false] 43))
    clear h
    go_enter Tryz.func14, Tryz.ntmps14
    go_wp2_with fail
    refine (next_is r a n c zs k v1 _ h0 E1).mono ?_
    rintro e w1 ⟨rfl, h1, t1⟩
    have kr1 := turn_blk t1 kr0 (by omega)
    have T1 := T0.trans t1
    clear t1 kr0 T0 h0
    go_wp2_with fail
    refine (next_is r a n c zs (k + 1) v2 _ h1 E2).mono ?_
    rintro e w2 ⟨rfl, h2, t2⟩
    have kr2 := turn_blk t2 kr1 (by omega)
    have T2 := T1.trans t2
    clear t2 kr1 T1 h1
    go_wp2_with fail
    rw [HL.out]
    refine (l2Power_any L (by omega) (by omega) _).mono ?_
    rintro e wx ⟨rfl, rfl⟩
    rw [HP.out, HB1.out, HB2.out, HB3.out]
    obtain ⟨q1, q2, q3, q4, q5, q6, q7⟩ := kr2.six
    have hsz := kr2.lt
    have HC := hide hcode
    clear hcode
    have hat : At6 w2 w.heap.size 0 z6 := ⟨q1, q2, q3, q4, q5, q6⟩
    have HAT := hide hat
    clear hat kr2
    go_wp2
    try rw [HX.out]
    exact region_endq w w2 r a n c zs (k + 1 + 1) _ _ _ _ _ _ _ _ rfl HAT.out h2 T2 (by omega) HC
  case hw =>
    refine ⟨?_, ?_, ?_⟩
    all_goals first | exact wrap_wfi _ | (unfold wfi; omega)

set_option maxHeartbeats 2000000 in
theorem reg_l0 (zs : List Int) (k : Nat) (v1 v2 v3 L P X : Int) (b1 b2 b3 : Bool) (E1 : Hid (zs.getD k 0 = v1)) (E2 : Hid (zs.getD (k + 1) 0 = v2)) (E3 : Hid (zs.getD (k + 1 + 1) 0 = v3)) (z0 : 0 ≤ v1) (z0' : v1 ≤ 255) (z1 : 0 ≤ v2) (z1' : v2 ≤ 255) (z2 : 0 ≤ v3) (z2' : v3 ≤ 255)
    (HL : Hid (5 + v1 % 6 = L)) (hL5 : 5 ≤ L) (hL10 : L ≤ 10) (HP : Hid ((2:Int)^L.toNat = P)) (hp : P ≤ 1048576) (hp0 : 0 < P) (HB1 : Hid ((v2 % 2 == 1) = b1)) (HB2 : Hid ((v2 / 2 % 2 == 1) = b2)) (HB3 : Hid ((v2 / 4 % 3 == 0) = b3)) (HX : Hid (wrap64 ((v1 / 8 % 4 * 32 + v2 / 16 % 4 * 128) / P * P) = X)) (hX0 : -9223372036854775808 ≤ X) (hX1 : X ≤ 9223372036854775807)
    (h8 : L < 8) (h240 : ¬ v1 < 240) (g0 : (v2 % 5 == 0) = true) : RegFn zs k := by
  refine ⟨X, 4, 0, b1, b2, b3, k + 1 + 1, ?hw, fun r a n c w h hcode => ?hc⟩
  case hc =>
    have hrw := h.blk.lt
    have T0 : Turn (fun j => j = r) w (w.alloc (.cells #[.int .i64 0, .int .i64 0, .int .i64 0, .bool false, .bool false, .bool false] 43)) := turn_alloc w _
    have kr0 := Blk.new w #[.int .i64 0, .int .i64 0, .int .i64 0, .bool false, .bool false, .bool false] 43
    have h0 := rdr_below h ((Below.refl w.heap.size w).alloc (Nat.le_refl _) (.cells #[.int .i64 0, .int .i64 0, .int .i64 0, .bool false, .bool false, .bool false] 43))
    clear h
    go_enter Tryz.func14, Tryz.ntmps14
    go_wp2_with fail
    refine (next_is r a n c zs k v1 _ h0 E1).mono ?_
    rintro e w1 ⟨rfl, h1, t1⟩
    have kr1 := turn_blk t1 kr0 (by omega)
    have T1 := T0.trans t1
    clear t1 kr0 T0 h0
    go_wp2_with fail
    refine (next_is r a n c zs (k + 1) v2 _ h1 E2).mono ?_
    rintro e w2 ⟨rfl, h2, t2⟩
    have kr2 := turn_blk t2 kr1 (by omega)
    have T2 := T1.trans t2
    clear t2 kr1 T1 h1
    go_wp2_with fail
    rw [HL.out]
    refine (l2Power_any L (by omega) (by omega) _).mono ?_
    rintro e wx ⟨rfl, rfl⟩
    rw [HP.out, HB1.out, HB2.out, HB3.out]
    obtain ⟨q1, q2, q3, q4, q5, q6, q7⟩ := kr2.six
    have hsz := kr2.lt
    have HC := hide hcode
    clear hcode
    have hat : At6 w2 w.heap.size 0 z6 := ⟨q1, q2, q3, q4, q5, q6⟩
    have HAT := hide hat
    clear hat kr2
    go_wp2
    try rw [HX.out]
    exact region_endq w w2 r a n c zs (k + 1 + 1) _ _ _ _ _ _ _ _ rfl HAT.out h2 T2 (by omega) HC
  case hw =>
    refine ⟨?_, ?_, ?_⟩
    all_goals first | exact wrap_wfi _ | (unfold wfi; omega)

set_option maxHeartbeats 2000000 in
theorem reg_l1 (zs : List Int) (k : Nat) (v1 v2 v3 L P X : Int) (b1 b2 b3 : Bool) (E1 : Hid (zs.getD k 0 = v1)) (E2 : Hid (zs.getD (k + 1) 0 = v2)) (E3 : Hid (zs.getD (k + 1 + 1) 0 = v3)) (z0 : 0 ≤ v1) (z0' : v1 ≤ 255) (z1 : 0 ≤ v2) (z1' : v2 ≤ 255) (z2 : 0 ≤ v3) (z2' : v3 ≤ 255)
    (HL : Hid (5 + v1 % 6 = L)) (hL5 : 5 ≤ L) (hL10 : L ≤ 10) (HP : Hid ((2:Int)^L.toNat = P)) (hp : P ≤ 1048576) (hp0 : 0 < P) (HB1 : Hid ((v2 % 2 == 1) = b1)) (HB2 : Hid ((v2 / 2 % 2 == 1) = b2)) (HB3 : Hid ((v2 / 4 % 3 == 0) = b3)) (HX : Hid (wrap64 ((v1 / 8 % 4 * 32 + v2 / 16 % 4 * 128) / P * P) = X)) (hX0 : -9223372036854775808 ≤ X) (hX1 : X ≤ 9223372036854775807)
    (h8 : L < 8) (h240 : ¬ v1 < 240) (g0 : (v2 % 5 == 0) = false) (g1 : (v2 % 5 == 1) = true) : RegFn zs k := by
  refine ⟨0, 14 + v2 / 128, 0, b1, b2, b3, k + 1 + 1, ?hw, fun r a n c w h hcode => ?hc⟩
  case hc =>
    have hrw := h.blk.lt
    have T0 : Turn (fun j => j = r) w (w.alloc (.cells #[.int .i64 0, .int .i64 0, .int .i64 0, .bool false, .bool false, .bool false] 43)) := turn_alloc w _
    have kr0 := Blk.new w #[.int .i64 0, .int .i64 0, .int .i64 0, .bool false, .bool false, .bool false] 43
    have h0 := rdr_below h ((Below.refl w.heap.size w).alloc (Nat.le_refl _) (.cells #[.int .i64 0, .int .i64 0, .int .i64 0, .bool false, .bool false, .bool false] 43))
    clear h
    go_enter Tryz.func14, Tryz.ntmps14
    go_wp2_with fail
    refine (next_is r a n c zs k v1 _ h0 E1).mono ?_
    rintro e w1 ⟨rfl, h1, t1⟩
    have kr1 := turn_blk t1 kr0 (by omega)
    have T1 := T0.trans t1
    clear t1 kr0 T0 h0
    go_wp2_with fail
    refine (next_is r a n c zs (k + 1) v2 _ h1 E2).mono ?_
    rintro e w2 ⟨rfl, h2, t2⟩
    have kr2 := turn_blk t2 kr1 (by omega)
    have T2 := T1.trans t2
    clear t2 kr1 T1 h1
    go_wp2_with fail
    rw [HL.out]
    refine (l2Power_any L (by omega) (by omega) _).mono ?_
    rintro e wx ⟨rfl, rfl⟩
    rw [HP.out, HB1.out, HB2.out, HB3.out]
    obtain ⟨q1, q2, q3, q4, q5, q6, q7⟩ := kr2.six
    have hsz := kr2.lt
    have HC := hide hcode
    clear hcode
    have hat : At6 w2 w.heap.size 0 z6 := ⟨q1, q2, q3, q4, q5, q6⟩
    have HAT := hide hat
    clear hat kr2
    go_wp2
    try rw [HX.out]
    exact region_endq w w2 r a n c zs (k + 1 + 1) _ _ _ _ _ _ _ _ rfl HAT.out h2 T2 (by omega) HC
  case hw =>
    refine ⟨?_, ?_, ?_⟩
    all_goals first | exact wrap_wfi _ | (unfold wfi; omega)
end Go.Proofs.YtaillnegkfagfacGreat
