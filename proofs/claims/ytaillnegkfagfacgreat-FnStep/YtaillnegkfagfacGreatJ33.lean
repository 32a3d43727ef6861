import Derived.Test.YtaillnegkfagfacGreatJ30
import Derived.Test.YtaillnegkfagfacGreatJ31
import Derived.Test.YtaillnegkfagfacGreatJ32
import Derived.Test.YtaillnegkfagfacGreatJ23
import Derived.Test.YtaillnegkfagfacGreatJ22
namespace Go.Proofs.YtaillnegkfagfacGreat
open Go.RowKit
set_option linter.unusedVariables false
set_option linter.unusedSimpArgs false
set_option maxRecDepth 100000

set_option maxHeartbeats 2000000 in
theorem reg_h2 (zs : List Int) (k : Nat) (v1 v2 v3 L P X : Int) (b1 b2 b3 : Bool) (E1 : Hid (zs.getD k 0 = v1)) (E2 : Hid (zs.getD (k + 1) 0 = v2)) (E3 : Hid (zs.getD (k + 1 + 1) 0 = v3)) (z0 : 0 ≤ v1) (z0' : v1 ≤ 255) (z1 : 0 ≤ v2) (z1' : v2 ≤ 255) (z2 : 0 ≤ v3) (z2' : v3 ≤ 255)
    (HL : Hid (5 + v1 % 6 = L)) (hL5 : 5 ≤ L) (hL10 : L ≤ 10) (HP : Hid ((2:Int)^L.toNat = P)) (hp : P ≤ 1048576) (hp0 : 0 < P) (HB1 : Hid ((v2 % 2 == 1) = b1)) (HB2 : Hid ((v2 / 2 % 2 == 1) = b2)) (HB3 : Hid ((v2 / 4 % 3 == 0) = b3)) (HX : Hid (wrap64 ((v1 / 8 % 4 * 32 + v2 / 16 % 4 * 128) / P * P) = X)) (hX0 : -9223372036854775808 ≤ X) (hX1 : X ≤ 9223372036854775807)
    (h8 : ¬ L < 8) (h240 : ¬ v1 < 240) (g0 : (v2 % 5 == 0) = false) (g1 : (v2 % 5 == 1) = false) (g2 : (v2 % 5 == 2) = true) : RegFn zs k := by
  refine ⟨wrap64 (X + 16), L, v3, b1, b2, b3, k + 1 + 1 + 1, ?hw, fun r a n c w h hcode => ?hc⟩
  case hc =>
    have hrw := h.blk.lt
    have T0 : Turn (fun j => j = r) w (w.alloc (.cells #[.int .i64 0, .int .i64 0, .int .i64 0, .bool false, .bool false, .bool false] 43)) := turn_alloc w _
    have kr0 := Blk.new w #[.int .i64 0, .int .i64 0, .int .i64 0, .bool false, .bool false, .bool false] 43
    have h0 := rdr_below h ((Below.refl w.heap.size w).alloc (Nat.le_refl _) (.cells #[.int .i64 0, .int .i64 0, .int .i64 0, .bool false, .bool false, .bool false] 43))
    clear h
    go_enter Tryz.func14, Tryz.ntmps14
    go_wp2_with fail
    refine (next_is r a n c zs k v1 _ h0 E1).mono ?_
    rintro e w1 ⟨rfl, h1, t1⟩
    have kr1 := turn_blk t1 kr0 (by omega)
    have T1 := T0.trans t1
    clear t1 kr0 T0 h0
    go_wp2_with fail
    refine (next_is r a n c zs (k + 1) v2 _ h1 E2).mono ?_
    rintro e w2 ⟨rfl, h2, t2⟩
    have kr2 := turn_blk t2 kr1 (by omega)
    have T2 := T1.trans t2
    clear t2 kr1 T1 h1
    go_wp2_with fail
    rw [HL.out]
    refine (l2Power_any L (by omega) (by omega) _).mono ?_
    rintro e wx ⟨rfl, rfl⟩
    rw [HP.out, HB1.out, HB2.out, HB3.out]
    obtain ⟨q1, q2, q3, q4, q5, q6, q7⟩ := kr2.six
    have hsz := kr2.lt
    have HC := hide hcode
    clear hcode
    clear q1 q2 q3 q4 q5 q6 q7
    have hB2 : w.heap.size < w2.heap.size := hsz
    go_wp2_with fail
    refine (next_is r a n c zs (k + 1 + 1) v3 _ (rdr_alloc h2 _) E3).mono ?_
    rintro e w3 ⟨rfl, h3, t3⟩
    have kr3 := turn_blk t3 (kr2.alloc _) (by omega)
    have T3 := (turn_more T2 _).trans t3
    rw [HX.out] at *
    have kn := turn_blk t3 (Blk.new w2 #[.int .i64 X, .int .i64 L, .int .i64 0, .bool b1, .bool b2, .bool b3] 43) (by omega)
    obtain ⟨q1, q2, q3, q4, q5, q6, q7⟩ := kr3.six
    have HAT := hide (show At6 w3 w.heap.size 0 z6 from ⟨q1, q2, q3, q4, q5, q6⟩)
    obtain ⟨p1, p2, p3, p4, p5, p6, p7⟩ := kn.six
    have HR3 := hide h3
    have HT3 := hide T3
    have HC2 := hide (show n ≠ 0 → ∀ b' off, a = some ⟨b', off, none⟩ → b' ≠ w2.heap.size from fun h b off e => by have := HC.out h b off e; omega)
    clear h3 T3 t3 kr3 kr2 kn h2 T2
    go_wp2
    refine region_endq0 w _ r a n c zs (k + 1 + 1 + 1) _ _ _ _ _ _ _ rfl ?_ ?_ ?_ (by omega) HC
    · first | exact HAT.out | exact at6_set HAT.out (by omega) | exact at6_set (at6_set HAT.out (by omega)) (by omega) | exact at6_set (at6_set (at6_set HAT.out (by omega)) (by omega)) (by omega)
    · first | exact HR3.out | exact rdr_set HR3.out (by omega) HC2.out _ _ | exact rdr_set (rdr_set HR3.out (by omega) HC2.out _ _) (by omega) HC2.out _ _ | exact rdr_set (rdr_set (rdr_set HR3.out (by omega) HC2.out _ _) (by omega) HC2.out _ _) (by omega) HC2.out _ _
    · first | exact HT3.out | exact turn_new HT3.out (by omega) _ _ | exact turn_new (turn_new HT3.out (by omega) _ _) (by omega) _ _ | exact turn_new (turn_new (turn_new HT3.out (by omega) _ _) (by omega) _ _) (by omega) _ _
  case hw =>
    refine ⟨?_, ?_, ?_⟩
    all_goals first | exact wrap_wfi _ | (unfold wfi; omega)

set_option maxHeartbeats 2000000 in
theorem reg_h3 (zs : List Int) (k : Nat) (v1 v2 v3 L P X : Int) (b1 b2 b3 : Bool) (E1 : Hid (zs.getD k 0 = v1)) (E2 : Hid (zs.getD (k + 1) 0 = v2)) (E3 : Hid (zs.getD (k + 1 + 1) 0 = v3)) (z0 : 0 ≤ v1) (z0' : v1 ≤ 255) (z1 : 0 ≤ v2) (z1' : v2 ≤ 255) (z2 : 0 ≤ v3) (z2' : v3 ≤ 255)
    (HL : Hid (5 + v1 % 6 = L)) (hL5 : 5 ≤ L) (hL10 : L ≤ 10) (HP : Hid ((2:Int)^L.toNat = P)) (hp : P ≤ 1048576) (hp0 : 0 < P) (HB1 : Hid ((v2 % 2 == 1) = b1)) (HB2 : Hid ((v2 / 2 % 2 == 1) = b2)) (HB3 : Hid ((v2 / 4 % 3 == 0) = b3)) (HX : Hid (wrap64 ((v1 / 8 % 4 * 32 + v2 / 16 % 4 * 128) / P * P) = X)) (hX0 : -9223372036854775808 ≤ X) (hX1 : X ≤ 9223372036854775807)
    (h8 : ¬ L < 8) (h240 : ¬ v1 < 240) (g0 : (v2 % 5 == 0) = false) (g1 : (v2 % 5 == 1) = false) (g2 : (v2 % 5 == 2) = false) (g3 : (v2 % 5 == 3) = true) : RegFn zs k := by
  refine ⟨X, L, 256 - v2 / 128 * 300, b1, b2, b3, k + 1 + 1 + 1, ?hw, fun r a n c w h hcode => ?hc⟩
  case hc =>
    have hrw := h.blk.lt
    have T0 : Turn (fun j => j = r) w (w.alloc (.cells #[.int .i64 0, .int .i64 0, .int .i64 0, .bool false, .bool false, .bool false] 43)) := turn_alloc w _
    have kr0 := Blk.new w #[.int .i64 0, .int .i64 0, .int .i64 0, .bool false, .bool false, .bool false] 43
    have h0 := rdr_below h ((Below.refl w.heap.size w).alloc (Nat.le_refl _) (.cells #[.int .i64 0, .int .i64 0, .int .i64 0, .bool false, .bool false, .bool false] 43))
    clear h
    go_enter Tryz.func14, Tryz.ntmps14
    go_wp2_with fail
    refine (next_is r a n c zs k v1 _ h0 E1).mono ?_
    rintro e w1 ⟨rfl, h1, t1⟩
    have kr1 := turn_blk t1 kr0 (by omega)
    have T1 := T0.trans t1
    clear t1 kr0 T0 h0
    go_wp2_with fail
    refine (next_is r a n c zs (k + 1) v2 _ h1 E2).mono ?_
    rintro e w2 ⟨rfl, h2, t2⟩
    have kr2 := turn_blk t2 kr1 (by omega)
    have T2 := T1.trans t2
    clear t2 kr1 T1 h1
    go_wp2_with fail
    rw [HL.out]
    refine (l2Power_any L (by omega) (by omega) _).mono ?_
    rintro e wx ⟨rfl, rfl⟩
    rw [HP.out, HB1.out, HB2.out, HB3.out]
    obtain ⟨q1, q2, q3, q4, q5, q6, q7⟩ := kr2.six
    have hsz := kr2.lt
    have HC := hide hcode
    clear hcode
    clear q1 q2 q3 q4 q5 q6 q7
    have hB2 : w.heap.size < w2.heap.size := hsz
    go_wp2_with fail
    refine (next_is r a n c zs (k + 1 + 1) v3 _ (rdr_alloc h2 _) E3).mono ?_
    rintro e w3 ⟨rfl, h3, t3⟩
    have kr3 := turn_blk t3 (kr2.alloc _) (by omega)
    have T3 := (turn_more T2 _).trans t3
    rw [HX.out] at *
    have kn := turn_blk t3 (Blk.new w2 #[.int .i64 X, .int .i64 L, .int .i64 0, .bool b1, .bool b2, .bool b3] 43) (by omega)
    obtain ⟨q1, q2, q3, q4, q5, q6, q7⟩ := kr3.six
    have HAT := hide (show At6 w3 w.heap.size 0 z6 from ⟨q1, q2, q3, q4, q5, q6⟩)
    obtain ⟨p1, p2, p3, p4, p5, p6, p7⟩ := kn.six
    have HR3 := hide h3
    have HT3 := hide T3
    have HC2 := hide (show n ≠ 0 → ∀ b' off, a = some ⟨b', off, none⟩ → b' ≠ w2.heap.size from fun h b off e => by have := HC.out h b off e; omega)
    clear h3 T3 t3 kr3 kr2 kn h2 T2
    go_wp2
    refine region_endq0 w _ r a n c zs (k + 1 + 1 + 1) _ _ _ _ _ _ _ rfl ?_ ?_ ?_ (by omega) HC
    · first | exact HAT.out | exact at6_set HAT.out (by omega) | exact at6_set (at6_set HAT.out (by omega)) (by omega) | exact at6_set (at6_set (at6_set HAT.out (by omega)) (by omega)) (by omega)
    · first | exact HR3.out | exact rdr_set HR3.out (by omega) HC2.out _ _ | exact rdr_set (rdr_set HR3.out (by omega) HC2.out _ _) (by omega) HC2.out _ _ | exact rdr_set (rdr_set (rdr_set HR3.out (by omega) HC2.out _ _) (by omega) HC2.out _ _) (by omega) HC2.out _ _
    · first | exact HT3.out | exact turn_new HT3.out (by omega) _ _ | exact turn_new (turn_new HT3.out (by omega) _ _) (by omega) _ _ | exact turn_new (turn_new (turn_new HT3.out (by omega) _ _) (by omega) _ _) (by omega) _ _
  case hw =>
    refine ⟨?_, ?_, ?_⟩
    all_goals first | exact wrap_wfi _ | (unfold wfi; omega)

set_option maxHeartbeats 2000000 in
theorem reg_h4 (zs : List Int) (k : Nat) (v1 v2 v3 L P X : Int) (b1 b2 b3 : Bool) (E1 : Hid (zs.getD k 0 = v1)) (E2 : Hid (zs.getD (k + 1) 0 = v2)) (E3 : Hid (zs.getD (k + 1 + 1) 0 = v3)) (z0 : 0 ≤ v1) (z0' : v1 ≤ 255) (z1 : 0 ≤ v2) (z1' : v2 ≤ 255) (z2 : 0 ≤ v3) (z2' : v3 ≤ 255)
    (HL : Hid (5 + v1 % 6 = L)) (hL5 : 5 ≤ L) (hL10 : L ≤ 10) (HP : Hid ((2:Int)^L.toNat = P)) (hp : P ≤ 1048576) (hp0 : 0 < P) (HB1 : Hid ((v2 % 2 == 1) = b1)) (HB2 : Hid ((v2 / 2 % 2 == 1) = b2)) (HB3 : Hid ((v2 / 4 % 3 == 0) = b3)) (HX : Hid (wrap64 ((v1 / 8 % 4 * 32 + v2 / 16 % 4 * 128) / P * P) = X)) (hX0 : -9223372036854775808 ≤ X) (hX1 : X ≤ 9223372036854775807)
    (h8 : ¬ L < 8) (h240 : ¬ v1 < 240) (g0 : (v2 % 5 == 0) = false) (g1 : (v2 % 5 == 1) = false) (g2 : (v2 % 5 == 2) = false) (g3 : (v2 % 5 == 3) = false) : RegFn zs k := by
  refine ⟨wrap64 (262144 - wrap64 (P * (v2 / 128))), L, v3, b1, b2, b3, k + 1 + 1 + 1, ?hw, fun r a n c w h hcode => ?hc⟩
  case hc =>
    have hrw := h.blk.lt
    have T0 : Turn (fun j => j = r) w (w.alloc (.cells #[.int .i64 0, .int .i64 0, .int .i64 0, .bool false, .bool false, .bool false] 43)) := turn_alloc w _
    have kr0 := Blk.new w #[.int .i64 0, .int .i64 0, .int .i64 0, .bool false, .bool false, .bool false] 43
    have h0 := rdr_below h ((Below.refl w.heap.size w).alloc (Nat.le_refl _) (.cells #[.int .i64 0, .int .i64 0, .int .i64 0, .bool false, .bool false, .bool false] 43))
    clear h
    go_enter Tryz.func14, Tryz.ntmps14
    go_wp2_with fail
    refine (next_is r a n c zs k v1 _ h0 E1).mono ?_
    rintro e w1 ⟨rfl, h1, t1⟩
    have kr1 := turn_blk t1 kr0 (by omega)
    have T1 := T0.trans t1
    clear t1 kr0 T0 h0
    go_wp2_with fail
    refine (next_is r a n c zs (k + 1) v2 _ h1 E2).mono ?_
    rintro e w2 ⟨rfl, h2, t2⟩
    have kr2 := turn_blk t2 kr1 (by omega)
    have T2 := T1.trans t2
    clear t2 kr1 T1 h1
    go_wp2_with fail
    rw [HL.out]
    refine (l2Power_any L (by omega) (by omega) _).mono ?_
    rintro e wx ⟨rfl, rfl⟩
    rw [HP.out, HB1.out, HB2.out, HB3.out]
    obtain ⟨q1, q2, q3, q4, q5, q6, q7⟩ := kr2.six
    have hsz := kr2.lt
    have HC := hide hcode
    clear hcode
    clear q1 q2 q3 q4 q5 q6 q7
    have hB2 : w.heap.size < w2.heap.size := hsz
    go_wp2_with fail
    refine (next_is r a n c zs (k + 1 + 1) v3 _ (rdr_alloc h2 _) E3).mono ?_
    rintro e w3 ⟨rfl, h3, t3⟩
    have kr3 := turn_blk t3 (kr2.alloc _) (by omega)
    have T3 := (turn_more T2 _).trans t3
    rw [HX.out] at *
    have kn := turn_blk t3 (Blk.new w2 #[.int .i64 X, .int .i64 L, .int .i64 0, .bool b1, .bool b2, .bool b3] 43) (by omega)
    obtain ⟨q1, q2, q3, q4, q5, q6, q7⟩ := kr3.six
    have HAT := hide (show At6 w3 w.heap.size 0 z6 from ⟨q1, q2, q3, q4, q5, q6⟩)
    obtain ⟨p1, p2, p3, p4, p5, p6, p7⟩ := kn.six
    have HR3 := hide h3
    have HT3 := hide T3
    have HC2 := hide (show n ≠ 0 → ∀ b' off, a = some ⟨b', off, none⟩ → b' ≠ w2.heap.size from fun h b off e => by have := HC.out h b off e; omega)
    clear h3 T3 t3 kr3 kr2 kn h2 T2
    go_wp2
    refine region_endq0 w _ r a n c zs (k + 1 + 1 + 1) _ _ _ _ _ _ _ rfl ?_ ?_ ?_ (by omega) HC
    · first | exact HAT.out | exact at6_set HAT.out (by omega) | exact at6_set (at6_set HAT.out (by omega)) (by omega) | exact at6_set (at6_set (at6_set HAT.out (by omega)) (by omega)) (by omega)
    · first | exact HR3.out | exact rdr_set HR3.out (by omega) HC2.out _ _ | exact rdr_set (rdr_set HR3.out (by omega) HC2.out _ _) (by omega) HC2.out _ _ | exact rdr_set (rdr_set (rdr_set HR3.out (by omega) HC2.out _ _) (by omega) HC2.out _ _) (by omega) HC2.out _ _
    · first | exact HT3.out | exact turn_new HT3.out (by omega) _ _ | exact turn_new (turn_new HT3.out (by omega) _ _) (by omega) _ _ | exact turn_new (turn_new (turn_new HT3.out (by omega) _ _) (by omega) _ _) (by omega) _ _
  case hw =>
    refine ⟨?_, ?_, ?_⟩
    all_goals first | exact wrap_wfi _ | (unfold wfi; omega)
end Go.Proofs.YtaillnegkfagfacGreat

namespace Go.Proofs.YtaillnegkfagfacGreat
open Go.RowKit
set_option linter.unusedVariables false
set_option linter.unusedSimpArgs false
set_option maxRecDepth 100000

theorem l2Region_fn (zs : List Int) (k : Nat) (hz : ∀ j, 0 ≤ zs.getD j 0 ∧ zs.getD j 0 ≤ 255) : RegFn zs k := by
  obtain ⟨v1, E1, z0, z0'⟩ := draw_of hz k
  obtain ⟨v2, E2, z1, z1'⟩ := draw_of hz (k + 1)
  obtain ⟨v3, E3, z2, z2'⟩ := draw_of hz (k + 1 + 1)
  obtain ⟨L, hL⟩ : ∃ L : Int, 5 + v1 % 6 = L := ⟨_, rfl⟩
  have hL5 : 5 ≤ L := by omega
  have hL10 : L ≤ 10 := by omega
  have hp := pow_lt L.toNat (by omega)
  have hp0 := pow_pos L.toNat
  obtain ⟨P, hP⟩ : ∃ P : Int, (2:Int)^L.toNat = P := ⟨_, rfl⟩
  rw [hP] at hp hp0
  obtain ⟨b1, hb1⟩ : ∃ b : Bool, (v2 % 2 == 1) = b := ⟨_, rfl⟩
  obtain ⟨b2, hb2⟩ : ∃ b : Bool, (v2 / 2 % 2 == 1) = b := ⟨_, rfl⟩
  obtain ⟨b3, hb3⟩ : ∃ b : Bool, (v2 / 4 % 3 == 0) = b := ⟨_, rfl⟩
  obtain ⟨X, hX⟩ : ∃ X : Int, wrap64 ((v1 / 8 % 4 * 32 + v2 / 16 % 4 * 128) / P * P) = X := ⟨_, rfl⟩
  obtain ⟨hX0, hX1⟩ : wfi X := by rw [← hX]; exact wrap_wfi _
  have HL := hide hL
  have HP := hide hP
  have HB1 := hide hb1
  have HB2 := hide hb2
  have HB3 := hide hb3
  have HX := hide hX
  have cs : v2 % 5 = 0 ∨ v2 % 5 = 1 ∨ v2 % 5 = 2 ∨ v2 % 5 = 3 ∨ v2 % 5 = 4 := by omega
  by_cases h8 : L < 8
  · by_cases h240 : v1 < 240
    · exact reg_ln zs k v1 v2 v3 L P X b1 b2 b3 E1 E2 E3 z0 z0' z1 z1' z2 z2' HL hL5 hL10 HP hp hp0 HB1 HB2 HB3 HX hX0 hX1 h8 h240
    · rcases cs with c | c | c | c | c
      · exact reg_l0 zs k v1 v2 v3 L P X b1 b2 b3 E1 E2 E3 z0 z0' z1 z1' z2 z2' HL hL5 hL10 HP hp hp0 HB1 HB2 HB3 HX hX0 hX1 h8 h240 (by rw [c]; rfl)
      · exact reg_l1 zs k v1 v2 v3 L P X b1 b2 b3 E1 E2 E3 z0 z0' z1 z1' z2 z2' HL hL5 hL10 HP hp hp0 HB1 HB2 HB3 HX hX0 hX1 h8 h240 (by rw [c]; rfl) (by rw [c]; rfl)
      · exact reg_l2 zs k v1 v2 v3 L P X b1 b2 b3 E1 E2 E3 z0 z0' z1 z1' z2 z2' HL hL5 hL10 HP hp hp0 HB1 HB2 HB3 HX hX0 hX1 h8 h240 (by rw [c]; rfl) (by rw [c]; rfl) (by rw [c]; rfl)
      · exact reg_l3 zs k v1 v2 v3 L P X b1 b2 b3 E1 E2 E3 z0 z0' z1 z1' z2 z2' HL hL5 hL10 HP hp hp0 HB1 HB2 HB3 HX hX0 hX1 h8 h240 (by rw [c]; rfl) (by rw [c]; rfl) (by rw [c]; rfl) (by rw [c]; rfl)
      · exact reg_l4 zs k v1 v2 v3 L P X b1 b2 b3 E1 E2 E3 z0 z0' z1 z1' z2 z2' HL hL5 hL10 HP hp hp0 HB1 HB2 HB3 HX hX0 hX1 h8 h240 (by rw [c]; rfl) (by rw [c]; rfl) (by rw [c]; rfl) (by rw [c]; rfl)
  · by_cases h240 : v1 < 240
    · exact reg_hn zs k v1 v2 v3 L P X b1 b2 b3 E1 E2 E3 z0 z0' z1 z1' z2 z2' HL hL5 hL10 HP hp hp0 HB1 HB2 HB3 HX hX0 hX1 h8 h240
    · rcases cs with c | c | c | c | c
      · exact reg_h0 zs k v1 v2 v3 L P X b1 b2 b3 E1 E2 E3 z0 z0' z1 z1' z2 z2' HL hL5 hL10 HP hp hp0 HB1 HB2 HB3 HX hX0 hX1 h8 h240 (by rw [c]; rfl)
      · exact reg_h1 zs k v1 v2 v3 L P X b1 b2 b3 E1 E2 E3 z0 z0' z1 z1' z2 z2' HL hL5 hL10 HP hp hp0 HB1 HB2 HB3 HX hX0 hX1 h8 h240 (by rw [c]; rfl) (by rw [c]; rfl)
      · exact reg_h2 zs k v1 v2 v3 L P X b1 b2 b3 E1 E2 E3 z0 z0' z1 z1' z2 z2' HL hL5 hL10 HP hp hp0 HB1 HB2 HB3 HX hX0 hX1 h8 h240 (by rw [c]; rfl) (by rw [c]; rfl) (by rw [c]; rfl)
      · exact reg_h3 zs k v1 v2 v3 L P X b1 b2 b3 E1 E2 E3 z0 z0' z1 z1' z2 z2' HL hL5 hL10 HP hp hp0 HB1 HB2 HB3 HX hX0 hX1 h8 h240 (by rw [c]; rfl) (by rw [c]; rfl) (by rw [c]; rfl) (by rw [c]; rfl)
      · exact reg_h4 zs k v1 v2 v3 L P X b1 b2 b3 E1 E2 E3 z0 z0' z1 z1' z2 z2' HL hL5 hL10 HP hp hp0 HB1 HB2 HB3 HX hX0 hX1 h8 h240 (by rw [c]; rfl) (by rw [c]; rfl) (by rw [c]; rfl) (by rw [c]; rfl)
end Go.Proofs.YtaillnegkfagfacGreat

namespace Go.Proofs.YtaillnegkfagfacGreat
open Go.RowKit
set_option linter.unusedVariables false
set_option linter.unusedSimpArgs false
set_option maxRecDepth 100000

theorem row_ob' {w : World} {g base n : Nat} {zs : List Int} (h : Row8 w g zs) (hb : base ≤ g) (hn : zs.length = n) (hm : n ≤ maxLen) (hr : ∀ z ∈ zs, 0 ≤ z ∧ z ≤ 255) : OB w base (.slice (some ⟨g, 0, none⟩) n n) zs := by
  subst hn
  exact ⟨⟨by simp, .inr ⟨g, zs.length, _, rfl, hb, h, Nat.le_refl _, hm, by simp, by rw [List.take_of_length_le (by simp)]⟩⟩, hr⟩

set_option maxHeartbeats 400000 in
theorem l1Long_any (n : Nat) (w : World) (hn : n ≤ 1048576) :
    Calls Tryz.prog 38 #[.int .i64 n] w fun e w' => e = .returned (.slice (some ⟨w.heap.size, 0, none⟩) n n) ∧ OB w' w.heap.size (.slice (some ⟨w.heap.size, 0, none⟩) n n) (List.replicate n 0) ∧ Below w.heap.size w w' := by
  obtain ⟨i0, hi, hz0, hz1, hz2⟩ := info_parts info8
  go_enter Tryz.func38, Tryz.ntmps38
  go_wp2_with (at_make; refine wpList_make_full _ rfl _ _ 22 rfl w.heap.size 5 i0 (.int .u8 0) 1 Tryz.underlying22 hi hz0 hz1 .i64 .i64 _ _ n rfl rfl rfl rfl (by rw [hz2]; omega) (by unfold maxLen; omega) (Nat.le_refl _) ?_; intro w1 hown hgr)
  have hrow := row_of_made hown
  have hbel := below_grown hgr
  clear hown hgr
  go_ret
  exact ⟨rfl, row_ob' hrow (Nat.le_refl _) (by simp) (by unfold maxLen; omega) (by intro z hz; simp at hz; omega), hbel⟩

theorem Ms.below {w W W' : World} {r : Nat} {a : Option Addr} {n c : Nat} {zs : List Int} {kk G : Nat} {v1 v2 v3 : Value} {y1 y2 y3 : List Int} (h : Ms w W r a n c zs kk G v1 v2 v3 y1 y2 y3) (b : Below W.heap.size W W') : Ms w W' r a n c zs kk G v1 v2 v3 y1 y2 y3 :=
  ⟨h.res.below b, h.box.below b, h.o1.below b, h.o2.below b, h.o3.below b, h.a12, h.a13, h.a23, h.g1, h.g2, h.g3, rdr_below h.rd b, h.turn.trans (turn_below b), h.big, h.low, h.code⟩
theorem Ms.put1 {w W : World} {r : Nat} {a : Option Addr} {n c : Nat} {zs : List Int} {kk G : Nat} {v1 v2 v3 u : Value} {y1 y2 y3 x : List Int} (h : Ms w W r a n c zs kk G v1 v2 v3 y1 y2 y3) (hu : OB W (w.heap.size + 1) u x) (n2 : ∀ k, u.ownBlock = some k → v2.ownBlock ≠ some k) (n3 : ∀ k, u.ownBlock = some k → v3.ownBlock ≠ some k) (hG : u.ownBlock ≠ some G) : Ms w (W.setCell ⟨G, 0, none⟩ u) r a n c zs kk G u v2 v3 x y2 y3 := by
  have hb := h.big
  have hl := h.low
  refine ⟨h.res.other _ _ (by dsimp only; omega), ?_, ob_far (g := G) hu _ _ hG, ob_far (g := G) h.o2 _ _ h.g2, ob_far (g := G) h.o3 _ _ h.g3, (fun k hk => n2 k hk), (fun k hk => n3 k hk), h.a23, hG, h.g2, h.g3, ?_, ?_, hb, hl, h.code⟩
  · have := h.box.set 0 u
    simpa using this
  · exact ⟨h.rd.blk.other _ _ (by dsimp only; omega), turn_bs' (turn_set W G 0 _) h.rd.bs (fun h0 k hk b off e => by subst hk; have := h.code h0 b off e; omega), h.rd.small, h.rd.far⟩
  · exact ⟨h.turn.os, h.turn.tape, h.turn.output, by rw [size_setCell]; exact h.turn.size, fun k hk hn => by rw [heap_setCell_other _ _ _ _ (by dsimp only; omega)]; exact h.turn.block k hk hn⟩
theorem Ms.put2 {w W : World} {r : Nat} {a : Option Addr} {n c : Nat} {zs : List Int} {kk G : Nat} {v1 v2 v3 u : Value} {y1 y2 y3 x : List Int} (h : Ms w W r a n c zs kk G v1 v2 v3 y1 y2 y3) (hu : OB W (w.heap.size + 1) u x) (n1 : ∀ k, u.ownBlock = some k → v1.ownBlock ≠ some k) (n3 : ∀ k, u.ownBlock = some k → v3.ownBlock ≠ some k) (hG : u.ownBlock ≠ some G) : Ms w (W.setCell ⟨G, 1, none⟩ u) r a n c zs kk G v1 u v3 y1 x y3 := by
  have hb := h.big
  have hl := h.low
  refine ⟨h.res.other _ _ (by dsimp only; omega), ?_, ob_far (g := G) h.o1 _ _ h.g1, ob_far (g := G) hu _ _ hG, ob_far (g := G) h.o3 _ _ h.g3, (fun k hk e => n1 k e hk), h.a13, (fun k hk => n3 k hk), h.g1, hG, h.g3, ?_, ?_, hb, hl, h.code⟩
  · have := h.box.set 1 u
    simpa using this
  · exact ⟨h.rd.blk.other _ _ (by dsimp only; omega), turn_bs' (turn_set W G 1 _) h.rd.bs (fun h0 k hk b off e => by subst hk; have := h.code h0 b off e; omega), h.rd.small, h.rd.far⟩
  · exact ⟨h.turn.os, h.turn.tape, h.turn.output, by rw [size_setCell]; exact h.turn.size, fun k hk hn => by rw [heap_setCell_other _ _ _ _ (by dsimp only; omega)]; exact h.turn.block k hk hn⟩
theorem Ms.put3 {w W : World} {r : Nat} {a : Option Addr} {n c : Nat} {zs : List Int} {kk G : Nat} {v1 v2 v3 u : Value} {y1 y2 y3 x : List Int} (h : Ms w W r a n c zs kk G v1 v2 v3 y1 y2 y3) (hu : OB W (w.heap.size + 1) u x) (n1 : ∀ k, u.ownBlock = some k → v1.ownBlock ≠ some k) (n2 : ∀ k, u.ownBlock = some k → v2.ownBlock ≠ some k) (hG : u.ownBlock ≠ some G) : Ms w (W.setCell ⟨G, 2, none⟩ u) r a n c zs kk G v1 v2 u y1 y2 x := by
  have hb := h.big
  have hl := h.low
  refine ⟨h.res.other _ _ (by dsimp only; omega), ?_, ob_far (g := G) h.o1 _ _ h.g1, ob_far (g := G) h.o2 _ _ h.g2, ob_far (g := G) hu _ _ hG, h.a12, (fun k hk e => n1 k e hk), (fun k hk e => n2 k e hk), h.g1, h.g2, hG, ?_, ?_, hb, hl, h.code⟩
  · have := h.box.set 2 u
    simpa using this
  · exact ⟨h.rd.blk.other _ _ (by dsimp only; omega), turn_bs' (turn_set W G 2 _) h.rd.bs (fun h0 k hk b off e => by subst hk; have := h.code h0 b off e; omega), h.rd.small, h.rd.far⟩
  · exact ⟨h.turn.os, h.turn.tape, h.turn.output, by rw [size_setCell]; exact h.turn.size, fun k hk hn => by rw [heap_setCell_other _ _ _ _ (by dsimp only; omega)]; exact h.turn.block k hk hn⟩

/-- WHAT l1Mem GIVES. -/
def MlPost (w : World) (r : Nat) (a : Option Addr) (n c : Nat) (zs : List Int) (kk : Nat) (y1 y2 y3 : List Int) (e : Ending) (w' : World) : Prop :=
  ∃ b1 d1 b2 d2 b3 d3, e = .returned (.agg #[.slice (some ⟨b1, 0, none⟩) y1.length d1, .slice (some ⟨b2, 0, none⟩) y2.length d2, .slice (some ⟨b3, 0, none⟩) y3.length d3]) ∧ BS w' (some ⟨b1, 0, none⟩) y1.length d1 y1 ∧ BS w' (some ⟨b2, 0, none⟩) y2.length d2 y2 ∧ BS w' (some ⟨b3, 0, none⟩) y3.length d3 y3 ∧ w.heap.size ≤ b1 ∧ w.heap.size ≤ b2 ∧ w.heap.size ≤ b3 ∧ (OB w' w.heap.size (.slice (some ⟨b1, 0, none⟩) y1.length d1) y1 ∧ b1 ≠ b2 ∧ b1 ≠ b3 ∧ b2 < w'.heap.size ∧ b3 < w'.heap.size) ∧ Rdr w' r a n c zs kk ∧ Turn (fun j => j = r) w w'
theorem Ms.done {w W : World} {r : Nat} {a : Option Addr} {n c : Nat} {zs : List Int} {kk G b1 d1 b2 d2 b3 d3 m1 m2 m3 : Nat} {y1 y2 y3 : List Int} (h : Ms w W r a n c zs kk G (.slice (some ⟨b1, 0, none⟩) m1 d1) (.slice (some ⟨b2, 0, none⟩) m2 d2) (.slice (some ⟨b3, 0, none⟩) m3 d3) y1 y2 y3) (fn : Func) (hf : fn.results = #[.cell 2 27]) (tmps : Array Value) (h2 : tmps[2]? = some (.pointer (some ⟨w.heap.size, 0, none⟩))) :
    bodyPost Tryz.prog fn (MlPost w r a n c zs kk y1 y2 y3) Exit.ret ⟨tmps, []⟩ (((W.setCell ⟨w.heap.size, 0, none⟩ (.slice (some ⟨b1, 0, none⟩) m1 d1)).setCell ⟨w.heap.size, 1, none⟩ (.slice (some ⟨b2, 0, none⟩) m2 d2)).setCell ⟨w.heap.size, 2, none⟩ (.slice (some ⟨b3, 0, none⟩) m3 d3)) := by
  have hl := h.low
  have e1 := h.o1.bs.1
  have e2 := h.o2.bs.1
  have e3 := h.o3.bs.1
  subst e1 e2 e3
  have hc' : n ≠ 0 → ∀ k, k = w.heap.size → ∀ b' off, a = some ⟨b', off, none⟩ → b' ≠ k := fun h0 k hk b off e => by have := h.code h0 b off e; omega
  have l1 := (h.o1.lt b1 rfl).1
  have l2 := (h.o2.lt b2 rfl).1
  have l3 := (h.o3.lt b3 rfl).1
  have st : ∀ (V : World) (i : Nat) (v : Value), Turn (fun j => j = w.heap.size) V (V.setCell ⟨w.heap.size, i, none⟩ v) := fun V i v => turn_set V _ i v
  have T3 := ((st W 0 (.slice (some ⟨b1, 0, none⟩) y1.length d1)).trans (st _ 1 (.slice (some ⟨b2, 0, none⟩) y2.length d2))).trans (st _ 2 (.slice (some ⟨b3, 0, none⟩) y3.length d3))
  have hz := ((h.res.set 0 (.slice (some ⟨b1, 0, none⟩) y1.length d1)).set 1 (.slice (some ⟨b2, 0, none⟩) y2.length d2)).set 2 (.slice (some ⟨b3, 0, none⟩) y3.length d3)
  have B1 := turn_bs T3 h.o1.bs (fun k hk b off e => by injection e with e; injection e with e; omega)
  have B2 := turn_bs T3 h.o2.bs (fun k hk b off e => by injection e with e; injection e with e; omega)
  have B3 := turn_bs T3 h.o3.bs (fun k hk b off e => by injection e with e; injection e with e; omega)
  have hO1 := turn_ob T3 h.o1 (fun k hk e => by have := (h.o1.lt k hk).1; omega)
  have hR : Rdr _ r a n c zs kk := ⟨turn_blk T3 h.rd.blk (by omega), turn_bs' T3 h.rd.bs hc', h.rd.small, h.rd.far⟩
  have hT : Turn (fun j => j = r) w _ := ⟨T3.os.trans h.turn.os, T3.tape.trans h.turn.tape, T3.output.trans h.turn.output, Nat.le_trans h.turn.size T3.size, fun k hk hn => (T3.block k (Nat.lt_of_lt_of_le hk h.turn.size) (by omega)).trans (h.turn.block k hk hn)⟩
  generalize ((W.setCell ⟨w.heap.size, 0, none⟩ (.slice (some ⟨b1, 0, none⟩) y1.length d1)).setCell ⟨w.heap.size, 1, none⟩ (.slice (some ⟨b2, 0, none⟩) y2.length d2)).setCell ⟨w.heap.size, 2, none⟩ (.slice (some ⟨b3, 0, none⟩) y3.length d3) = V at *
  refine bodyPost_ret (v := .agg #[.slice (some ⟨b1, 0, none⟩) y1.length d1, .slice (some ⟨b2, 0, none⟩) y2.length d2, .slice (some ⟨b3, 0, none⟩) y3.length d3]) ?_ rfl ⟨b1, d1, b2, d2, b3, d3, rfl, B1, B2, B3, by omega, by omega, by omega, ⟨hO1.mono (by omega), fun e => h.a12 b1 rfl (by rw [e]; rfl), fun e => h.a13 b1 rfl (by rw [e]; rfl), by have := (h.o2.lt b2 rfl).2; have := T3.size; omega, by have := (h.o3.lt b3 rfl).2; have := T3.size; omega⟩, hR, hT⟩
  have hz' : Blk V w.heap.size #[.slice (some ⟨b1, 0, none⟩) y1.length d1, .slice (some ⟨b2, 0, none⟩) y2.length d2, .slice (some ⟨b3, 0, none⟩) y3.length d3] 27 := by simpa using hz
  obtain ⟨p1, p2, p3, p4⟩ := hz'.three
  simp [results, hf, go_sem, h2, p1, p2, p3]
end Go.Proofs.YtaillnegkfagfacGreat
