import Derived.Test.YtaillnegkfagfacGreatJ30
namespace Go.Proofs.YtaillnegkfagfacGreat
open Go.RowKit
set_option linter.unusedVariables false
set_option linter.unusedSimpArgs false
set_option maxRecDepth 100000

set_option maxHeartbeats 2000000 in
theorem reg_hn (zs : List Int) (k : Nat) (v1 v2 v3 L P X : Int) (b1 b2 b3 : Bool) (E1 : Hid (zs.getD k 0 = v1)) (E2 : Hid (zs.getD (k + 1) 0 = v2)) (E3 : Hid (zs.getD (k + 1 + 1) 0 = v3)) (z0 : 0 ≤ v1) (z0' : v1 ≤ 255) (z1 : 0 ≤ v2) (z1' : v2 ≤ 255) (z2 : 0 ≤ v3) (z2' : v3 ≤ 255)
    (HL : Hid (5 + v1 % 6 = L)) (hL5 : 5 ≤ L) (hL10 : L ≤ 10) (HP : Hid ((2:Int)^L.toNat = P)) (hp : P ≤ 1048576) (hp0 : 0 < P) (HB1 : Hid ((v2 % 2 == 1) = b1)) (HB2 : Hid ((v2 / 2 % 2 == 1) = b2)) (HB3 : Hid ((v2 / 4 % 3 == 0) = b3)) (HX : Hid (wrap64 ((v1 / 8 % 4 * 32 + v2 / 16 % 4 * 128) / P * P) = X)) (hX0 : -9223372036854775808 ≤ X) (hX1 : X ≤ 9223372036854775807)
    (h8 : ¬ L < 8) (h240 : v1 < 240) : RegFn zs k := by
  refine ⟨X, L, v3, b1, b2, b3, k + 1 + 1 + 1, ?hw, fun r a n c w h hcode => ?hc⟩
  case hc =>
    have hrw := h.blk.lt
    have T0 : Turn (fun j => j = r) w (w.alloc (.cells #[.int .i64 0, .int .i64 0, .int .i64 0, .bool false, .bool false, .bool false] 43)) := turn_alloc w _
    have kr0 := Blk.new w #[.int .i64 0, .int .i64 0, .int .i64 0, .bool false, .bool false, .bool false] 43
    have h0 := rdr_below h ((Below.refl w.heap.size w).alloc (Nat.le_refl _) (.cells #[.int .i64 0, .int .i64 0, .int .i64 0, .bool false, .bool false, .bool false] 43))
    clear h
    go_enter Tryz.func14, Tryz.ntmps14
    go_wp2_with fail
    refine (next_is r a n c zs k v1 _ h0 E1).mono ?_
    rintro e w1 ⟨rfl, h1, t1⟩
    have kr1 := turn_blk t1 kr0 (by omega)
    have T1 := T0.trans t1
    clear t1 kr0 T0 h0
    go_wp2_with fail
    refine (next_is r a n c zs (k + 1) v2 _ h1 E2).mono ?_
    rintro e w2 ⟨rfl, h2, t2⟩
    have kr2 := turn_blk t2 kr1 (by omega)
    have T2 := T1.trans t2
    clear t2 kr1 T1 h1
    go_wp2_with fail
    rw [HL.out]
    refine (l2Power_any L (by omega) (by omega) _).mono ?_
    rintro e wx ⟨rfl, rfl⟩
    rw [HP.out, HB1.out, HB2.out, HB3.out]
    obtain ⟨q1, q2, q3, q4, q5, q6, q7⟩ := kr2.six
    have hsz := kr2.lt
    have HC := hide hcode
    clear hcode
    clear q1 q2 q3 q4 q5 q6 q7
    have hB2 : w.heap.size < w2.heap.size := hsz
    go_wp2_with fail
    refine (next_is r a n c zs (k + 1 + 1) v3 _ (rdr_alloc h2 _) E3).mono ?_
    rintro e w3 ⟨rfl, h3, t3⟩
    have kr3 := turn_blk t3 (kr2.alloc _) (by omega)
    have T3 := (turn_more T2 _).trans t3
    rw [HX.out] at *
    have kn := turn_blk t3 (Blk.new w2 #[.int .i64 X, .int .i64 L, .int .i64 0, .bool b1, .bool b2, .bool b3] 43) (by omega)
    obtain ⟨q1, q2, q3, q4, q5, q6, q7⟩ := kr3.six
    have HAT := hide (show At6 w3 w.heap.size 0 z6 from ⟨q1, q2, q3, q4, q5, q6⟩)
    obtain ⟨p1, p2, p3, p4, p5, p6, p7⟩ := kn.six
    have HR3 := hide h3
    have HT3 := hide T3
    have HC2 := hide (show n ≠ 0 → ∀ b' off, a = some ⟨b', off, none⟩ → b' ≠ w2.heap.size from fun h b off e => by have := HC.out h b off e; omega)
    clear h3 T3 t3 kr3 kr2 kn h2 T2
    go_wp2
    refine region_endq0 w _ r a n c zs (k + 1 + 1 + 1) _ _ _ _ _ _ _ rfl ?_ ?_ ?_ (by omega) HC
    · first | exact HAT.out | exact at6_set HAT.out (by omega) | exact at6_set (at6_set HAT.out (by omega)) (by omega) | exact at6_set (at6_set (at6_set HAT.out (by omega)) (by omega)) (by omega)
    · first | exact HR3.out | exact rdr_set HR3.out (by omega) HC2.out _ _ | exact rdr_set (rdr_set HR3.out (by omega) HC2.out _ _) (by omega) HC2.out _ _ | exact rdr_set (rdr_set (rdr_set HR3.out (by omega) HC2.out _ _) (by omega) HC2.out _ _) (by omega) HC2.out _ _
    · first | exact HT3.out | exact turn_new HT3.out (by omega) _ _ | exact turn_new (turn_new HT3.out (by omega) _ _) (by omega) _ _ | exact turn_new (turn_new (turn_new HT3.out (by omega) _ _) (by omega) _ _) (by omega) _ _
  case hw =>
    refine ⟨?_, ?_, ?_⟩
    all_goals first | exact wrap_wfi _ | (unfold wfi; omega)

set_option maxHeartbeats 2000000 in
theorem reg_h0 (zs : List Int) (k : Nat) (v1 v2 v3 L P X : Int) (b1 b2 b3 : Bool) (E1 : Hid (zs.getD k 0 = v1)) (E2 : Hid (zs.getD (k + 1) 0 = v2)) (E3 : Hid (zs.getD (k + 1 + 1) 0 = v3)) (z0 : 0 ≤ v1) (z0' : v1 ≤ 255) (z1 : 0 ≤ v2) (z1' : v2 ≤ 255) (z2 : 0 ≤ v3) (z2' : v3 ≤ 255)
    (HL : Hid (5 + v1 % 6 = L)) (hL5 : 5 ≤ L) (hL10 : L ≤ 10) (HP : Hid ((2:Int)^L.toNat = P)) (hp : P ≤ 1048576) (hp0 : 0 < P) (HB1 : Hid ((v2 % 2 == 1) = b1)) (HB2 : Hid ((v2 / 2 % 2 == 1) = b2)) (HB3 : Hid ((v2 / 4 % 3 == 0) = b3)) (HX : Hid (wrap64 ((v1 / 8 % 4 * 32 + v2 / 16 % 4 * 128) / P * P) = X)) (hX0 : -9223372036854775808 ≤ X) (hX1 : X ≤ 9223372036854775807)
    (h8 : ¬ L < 8) (h240 : ¬ v1 < 240) (g0 : (v2 % 5 == 0) = true) : RegFn zs k := by
  refine ⟨X, 4, v3, b1, b2, b3, k + 1 + 1 + 1, ?hw, fun r a n c w h hcode => ?hc⟩
  case hc =>
    have hrw := h.blk.lt
    have T0 : Turn (fun j => j = r) w (w.alloc (.cells #[.int .i64 0, .int .i64 0, .int .i64 0, .bool false, .bool false, .bool false] 43)) := turn_alloc w _
    have kr0 := Blk.new w #[.int .i64 0, .int .i64 0, .int .i64 0, .bool false, .bool false, .bool false] 43
    have h0 := rdr_below h ((Below.refl w.heap.size w).alloc (Nat.le_refl _) (.cells #[.int .i64 0, .int .i64 0, .int .i64 0, .bool false, .bool false, .bool false] 43))
    clear h
    go_enter Tryz.func14, Tryz.ntmps14
    go_wp2_with fail
    refine (next_is r a n c zs k v1 _ h0 E1).mono ?_
    rintro e w1 ⟨rfl, h1, t1⟩
    have kr1 := turn_blk t1 kr0 (by omega)
    have T1 := T0.trans t1
    clear t1 kr0 T0 h0
    go_wp2_with fail
    refine (next_is r a n c zs (k + 1) v2 _ h1 E2).mono ?_
    rintro e w2 ⟨rfl, h2, t2⟩
    have kr2 := turn_blk t2 kr1 (by omega)
    have T2 := T1.trans t2
    clear t2 kr1 T1 h1
    go_wp2_with fail
    rw [HL.out]
    refine (l2Power_any L (by omega) (by omega) _).mono ?_
    rintro e wx ⟨rfl, rfl⟩
    rw [HP.out, HB1.out, HB2.out, HB3.out]
    obtain ⟨q1, q2, q3, q4, q5, q6, q7⟩ := kr2.six
    have hsz := kr2.lt
    have HC := hide hcode
    clear hcode
    clear q1 q2 q3 q4 q5 q6 q7
    have hB2 : w.heap.size < w2.heap.size := hsz
    go_wp2_with fail
    refine (next_is r a n c zs (k + 1 + 1) v3 _ (rdr_alloc h2 _) E3).mono ?_
    rintro e w3 ⟨rfl, h3, t3⟩
    have kr3 := turn_blk t3 (kr2.alloc _) (by omega)
    have T3 := (turn_more T2 _).trans t3
    rw [HX.out] at *
    have kn := turn_blk t3 (Blk.new w2 #[.int .i64 X, .int .i64 L, .int .i64 0, .bool b1, .bool b2, .bool b3] 43) (by omega)
    obtain ⟨q1, q2, q3, q4, q5, q6, q7⟩ := kr3.six
    have HAT := hide (show At6 w3 w.heap.size 0 z6 from ⟨q1, q2, q3, q4, q5, q6⟩)
    obtain ⟨p1, p2, p3, p4, p5, p6, p7⟩ := kn.six
    have HR3 := hide h3
    have HT3 := hide T3
    have HC2 := hide (show n ≠ 0 → ∀ b' off, a = some ⟨b', off, none⟩ → b' ≠ w2.heap.size from fun h b off e => by have := HC.out h b off e; omega)
    clear h3 T3 t3 kr3 kr2 kn h2 T2
    go_wp2
    refine region_endq0 w _ r a n c zs (k + 1 + 1 + 1) _ _ _ _ _ _ _ rfl ?_ ?_ ?_ (by omega) HC
    · first | exact HAT.out | exact at6_set HAT.out (by omega) | exact at6_set (at6_set HAT.out (by omega)) (by omega) | exact at6_set (at6_set (at6_set HAT.out (by omega)) (by omega)) (by omega)
    · first | exact HR3.out | exact rdr_set HR3.out (by omega) HC2.out _ _ | exact rdr_set (rdr_set HR3.out (by omega) HC2.out _ _) (by omega) HC2.out _ _ | exact rdr_set (rdr_set (rdr_set HR3.out (by omega) HC2.out _ _) (by omega) HC2.out _ _) (by omega) HC2.out _ _
    · first | exact HT3.out | exact turn_new HT3.out (by omega) _ _ | exact turn_new (turn_new HT3.out (by omega) _ _) (by omega) _ _ | exact turn_new (turn_new (turn_new HT3.out (by omega) _ _) (by omega) _ _) (by omega) _ _
  case hw =>
    refine ⟨?_, ?_, ?_⟩
    all_goals first | exact wrap_wfi _ | (unfold wfi; omega)

set_option maxHeartbeats 2000000 in
theorem reg_h1 (zs : List Int) (k : Nat) (v1 v2 v3 L P X : Int) (b1 b2 b3 : Bool) (E1 : Hid (zs.getD k 0 = v1)) (E2 : Hid (zs.getD (k + 1) 0 = v2)) (E3 : Hid (zs.getD (k + 1 + 1) 0 = v3)) (z0 : 0 ≤ v1) (z0' : v1 ≤ 255) (z1 : 0 ≤ v2) (z1' : v2 ≤ 255) (z2 : 0 ≤ v3) (z2' : v3 ≤ 255)
    (HL : Hid (5 + v1 % 6 = L)) (hL5 : 5 ≤ L) (hL10 : L ≤ 10) (HP : Hid ((2:Int)^L.toNat = P)) (hp : P ≤ 1048576) (hp0 : 0 < P) (HB1 : Hid ((v2 % 2 == 1) = b1)) (HB2 : Hid ((v2 / 2 % 2 == 1) = b2)) (HB3 : Hid ((v2 / 4 % 3 == 0) = b3)) (HX : Hid (wrap64 ((v1 / 8 % 4 * 32 + v2 / 16 % 4 * 128) / P * P) = X)) (hX0 : -9223372036854775808 ≤ X) (hX1 : X ≤ 9223372036854775807)
    (h8 : ¬ L < 8) (h240 : ¬ v1 < 240) (g0 : (v2 % 5 == 0) = false) (g1 : (v2 % 5 == 1) = true) : RegFn zs k := by
  refine ⟨0, 14 + v2 / 128, v3, b1, b2, b3, k + 1 + 1 + 1, ?hw, fun r a n c w h hcode => ?hc⟩
  case hc =>
    have hrw := h.blk.lt
    have T0 : Turn (fun j => j = r) w (w.alloc (.cells #[.int .i64 0, .int .i64 0, .int .i64 0, .bool false, .bool false, .bool false] 43)) := turn_alloc w _
    have kr0 := Blk.new w #[.int .i64 0, .int .i64 0, .int .i64 0, .bool false, .bool false, .bool false] 43
    have h0 := rdr_below h ((Below.refl w.heap.size w).alloc (Nat.le_refl _) (.cells #[.int .i64 0, .int .i64 0, .int .i64 0, .bool false, .bool false, .bool false] 43))
    clear h
    go_enter Tryz.func14, Tryz.ntmps14
    go_wp2_with fail
    refine (next_is r a n c zs k v1 _ h0 E1).mono ?_
    rintro e w1 ⟨rfl, h1, t1⟩
    have kr1 := turn_blk t1 kr0 (by omega)
    have T1 := T0.trans t1
    clear t1 kr0 T0 h0
    go_wp2_with fail
    refine (next_is r a n c zs (k + 1) v2 _ h1 E2).mono ?_
    rintro e w2 ⟨rfl, h2, t2⟩
    have kr2 := turn_blk t2 kr1 (by omega)
    have T2 := T1.trans t2
    clear t2 kr1 T1 h1
    go_wp2_with fail
    rw [HL.out]
    refine (l2Power_any L (by omega) (by omega) _).mono ?_
    rintro e wx ⟨rfl, rfl⟩
    rw [HP.out, HB1.out, HB2.out, HB3.out]
    obtain ⟨q1, q2, q3, q4, q5, q6, q7⟩ := kr2.six
    have hsz := kr2.lt
    have HC := hide hcode
    clear hcode
    clear q1 q2 q3 q4 q5 q6 q7
    have hB2 : w.heap.size < w2.heap.size := hsz
    go_wp2_with fail
    refine (next_is r a n c zs (k + 1 + 1) v3 _ (rdr_alloc h2 _) E3).mono ?_
    rintro e w3 ⟨rfl, h3, t3⟩
    have kr3 := turn_blk t3 (kr2.alloc _) (by omega)
    have T3 := (turn_more T2 _).trans t3
    rw [HX.out] at *
    have kn := turn_blk t3 (Blk.new w2 #[.int .i64 X, .int .i64 L, .int .i64 0, .bool b1, .bool b2, .bool b3] 43) (by omega)
    obtain ⟨q1, q2, q3, q4, q5, q6, q7⟩ := kr3.six
    have HAT := hide (show At6 w3 w.heap.size 0 z6 from ⟨q1, q2, q3, q4, q5, q6⟩)
    obtain ⟨p1, p2, p3, p4, p5, p6, p7⟩ := kn.six
    have HR3 := hide h3
    have HT3 := hide T3
    have HC2 := hide (show n ≠ 0 → ∀ b' off, a = some ⟨b', off, none⟩ → b' ≠ w2.heap.size from fun h b off e => by have := HC.out h b off e; omega)
    clear h3 T3 t3 kr3 kr2 kn h2 T2
    go_wp2
    refine region_endq0 w _ r a n c zs (k + 1 + 1 + 1) _ _ _ _ _ _ _ rfl ?_ ?_ ?_ (by omega) HC
    · first | exact HAT.out | exact at6_set HAT.out (by omega) | exact at6_set (at6_set HAT.out (by omega)) (by omega) | exact at6_set (at6_set (at6_set HAT.out (by omega)) (by omega)) (by omega)
    · first | exact HR3.out | exact rdr_set HR3.out (by omega) HC2.out _ _ | exact rdr_set (rdr_set HR3.out (by omega) HC2.out _ _) (by omega) HC2.out _ _ | exact rdr_set (rdr_set (rdr_set HR3.out (by omega) HC2.out _ _) (by omega) HC2.out _ _) (by omega) HC2.out _ _
    · first | exact HT3.out | exact turn_new HT3.out (by omega) _ _ | exact turn_new (turn_new HT3.out (by omega) _ _) (by omega) _ _ | exact turn_new (turn_new (turn_new HT3.out (by omega) _ _) (by omega) _ _) (by omega) _ _
  case hw =>
    refine ⟨?_, ?_, ?_⟩
    all_goals first | exact wrap_wfi _ | (unfold wfi; omega)
end Go.Proofs.YtaillnegkfagfacGreat
