import Derived.Test.YthnelonbpbhhbabMem5
import Derived.Test.YthnelonbpbhhbabWr9
import Derived.Test.YthnelonbpbhhbabWi3
import Derived.Test.YthnelonbpbhhbabWr11
namespace Go.Proofs.Ythnelonbpbhhbab
open Go.RowKit
set_option linter.unusedVariables false

theorem row_ob {w : World} {g base n : Nat} {zs : List Int} (h : Row8 w g zs) (hb : base ≤ g) (hn : zs.length = n) (hm : n ≤ maxLen) (hr : ∀ z ∈ zs, 0 ≤ z ∧ z ≤ 255) : OB w base (.slice (some ⟨g, 0, none⟩) n n) zs := by
  subst hn
  exact ⟨⟨by simp, .inr ⟨g, zs.length, _, rfl, hb, h, Nat.le_refl _, hm, by simp, by rw [List.take_of_length_le (by simp)]⟩⟩, hr⟩
theorem wrm_len (n1 n2 n3 : Nat) (x1 x2 x3 : List Int) (p s v : Int) : (wrm n1 n2 n3 x1 x2 x3 p s v).1.length + (wrm n1 n2 n3 x1 x2 x3 p s v).2.1.length + (wrm n1 n2 n3 x1 x2 x3 p s v).2.2.1.length ≤ x1.length + x2.length + x3.length + 1 := by
  unfold wrm
  repeat' split
  all_goals simp [put_len]
  all_goals omega
theorem own3_bs {w : World} {base : Nat} {a1 a2 a3 : Option Addr} {m1 d1 m2 d2 m3 d3 : Nat} {y1 y2 y3 : List Int} (h : Own3 w base (.slice a1 m1 d1) (.slice a2 m2 d2) (.slice a3 m3 d3) y1 y2 y3) : BS w a1 m1 d1 y1 ∧ BS w a2 m2 d2 y2 ∧ BS w a3 m3 d3 y3 :=
  ⟨h.1.bs, h.2.1.bs, h.2.2.1.bs⟩
theorem own3_turn {S : Nat → Prop} {w w' : World} {base : Nat} {v1 v2 v3 : Value} {y1 y2 y3 : List Int} (h : Own3 w base v1 v2 v3 y1 y2 y3) (t : Turn S w w') (hs : ∀ k, Blks v1 v2 v3 k → ¬ S k) : Own3 w' base v1 v2 v3 y1 y2 y3 :=
  ⟨turn_ob t h.1 (fun k hk => hs k (Or.inl hk)), turn_ob t h.2.1 (fun k hk => hs k (Or.inr (Or.inl hk))), turn_ob t h.2.2.1 (fun k hk => hs k (Or.inr (Or.inr hk))), h.2.2.2⟩
theorem own3_range {w : World} {base : Nat} {v1 v2 v3 : Value} {y1 y2 y3 : List Int} (h : Own3 w base v1 v2 v3 y1 y2 y3) : ∀ k, Blks v1 v2 v3 k → base ≤ k ∧ k < w.heap.size := by
  intro k hk
  rcases hk with e | e | e
  · exact h.1.lt k e
  · exact h.2.1.lt k e
  · exact h.2.2.1.lt k e

set_option maxHeartbeats 4000000 in
theorem exactWrite_walk (a1 a2 a3 : Option Addr) (n1 c1 n2 c2 n3 c3 : Nat) (x1 x2 x3 : List Int) (p s v : Int) (w : World) (h1 : BS w a1 n1 c1 x1) (h2 : BS w a2 n2 c2 x2) (h3 : BS w a3 n3 c3 x3) (hmax : p ≤ 9223372036854775807) (hv : -9223372036854775808 ≤ v ∧ v ≤ 9223372036854775807) :
    Calls Try.prog 8 #[.agg #[.slice a1 n1 c1, .slice a2 n2 c2, .slice a3 n3 c3], .int .i64 p, .int .i64 s, .int .i64 v] w fun e w' => e = .returned (.bool true) ∧ Below w.heap.size w w' := by
  have m1 := h1.2.1
  have m2 := h2.2.1
  have m3 := h3.2.1
  have hB0 : Below w.heap.size w (w.alloc (.cells #[.slice a1 n1 c1, .slice a2 n2 c2, .slice a3 n3 c3] 35)) := (Below.refl _ _).alloc (Nat.le_refl _) _
  have S1 := hide (show x1.length ≤ maxLen ∧ (∀ z ∈ x1, 0 ≤ z ∧ z ≤ 255) ∧ x1.length = n1 from ⟨by rw [h1.1]; exact m1, h1.2.2.1, h1.1⟩)
  have S2 := hide (show x2.length ≤ maxLen ∧ (∀ z ∈ x2, 0 ≤ z ∧ z ≤ 255) ∧ x2.length = n2 from ⟨by rw [h2.1]; exact m2, h2.2.2.1, h2.1⟩)
  have S3 := hide (show x3.length ≤ maxLen ∧ (∀ z ∈ x3, 0 ≤ z ∧ z ≤ 255) ∧ x3.length = n3 from ⟨by rw [h3.1]; exact m3, h3.2.2.1, h3.1⟩)
  by_cases hs : (1048576 : Int) < (n1 : Int) + n2 + n3
  · go_enter Try.func8, Try.ntmps8
    go_wp2_with fail
    refine (szMem_lo a1 a2 a3 n1 c1 n2 c2 n3 c3 _ _ (by omega) (by omega) m1 m2 m3 hs).mono ?_
    rintro e w1 ⟨rfl, hb1⟩
    go_wp2
    go_ret
    exact ⟨rfl, hB0.trans (hb1.mono (by simp))⟩
  · have hn : n1 + n2 + n3 ≤ 1048576 := by omega
    go_enter Try.func8, Try.ntmps8
    go_wp2_with fail
    refine (szMem_hi a1 a2 a3 n1 c1 n2 c2 n3 c3 _ _ (by omega) (by omega) m1 m2 m3 (by omega)).mono ?_
    rintro e w1 ⟨rfl, hb1⟩
    have k1 := (Blk.new w #[.slice a1 n1 c1, .slice a2 n2 c2, .slice a3 n3 c3] 35).below hb1
    have hB1 := hB0.trans (hb1.mono (by simp))
    clear hb1 hB0
    obtain ⟨q1, q2, q3, q4⟩ := k1.three
    go_wp2_with fail
    refine (toMem_any a1 a2 a3 n1 c1 n2 c2 n3 c3 x1 x2 x3 _ (h1.below hB1) (h2.below hB1) (h3.below hB1) hn).mono ?_
    rintro e w2 ⟨g1, g2, g3, rfl, _, _, _, s1, s2, s3, hb2⟩
    have k2 := k1.below hb2
    have hB2 := hB1.trans (hb2.mono hB1.size)
    clear hb2 hB1 k1 q1 q2 q3 q4
    go_wp2_with fail
    refine (sWrite_any g1 0 g2 0 g3 0 n1 n1 n2 n2 n3 n3 x1 x2 x3 p s v _ (s1.bs S1.out.1 S1.out.2.1 _ _ S1.out.2.2) (s2.bs S2.out.1 S2.out.2.1 _ _ S2.out.2.2) (s3.bs S3.out.1 S3.out.2.1 _ _ S3.out.2.2) hn hv hmax).mono ?_
    have HL := wrm_len n1 n2 n3 x1 x2 x3 p s v
    rw [S1.out.2.2, S2.out.2.2, S3.out.2.2] at HL
    generalize hR : wrm n1 n2 n3 x1 x2 x3 p s v = R at HL
    have HR := hide hR
    clear hR
    obtain ⟨y1, y2, y3, f⟩ := R
    rintro e w3 ⟨A1, M1, D1, A2, M2, D2, A3, M3, D3, rfl, OW, hb3⟩
    have HL := hide HL
    simp only at OW
    have k3 := k2.below hb3
    have hB3 := hB2.trans (hb3.mono hB2.size)
    clear hb3 hB2 k2 s1 s2 s3
    have RW : ∀ k, Blks (.slice A1 M1 D1) (.slice A2 M2 D2) (.slice A3 M3 D3) k → k < w3.heap.size := fun k hk => (own3_range OW k hk).2
    have hk3 := k3.alloc (.cells #[.slice A1 M1 D1, .slice A2 M2 D2, .slice A3 M3 D3] 38)
    have kW := Blk.new w3 #[.slice A1 M1 D1, .slice A2 M2 D2, .slice A3 M3 D3] 38
    have OW := own3_alloc OW (.cells #[.slice A1 M1 D1, .slice A2 M2 D2, .slice A3 M3 D3] 38)
    have z3 := hB3.size
    have hB3 := hB3.alloc hB3.size (.cells #[.slice A1 M1 D1, .slice A2 M2 D2, .slice A3 M3 D3] 38)
    clear k3
    obtain ⟨q1, q2, q3, q4⟩ := hk3.three
    go_wp2_with fail
    refine (toMem_any a1 a2 a3 n1 c1 n2 c2 n3 c3 x1 x2 x3 _ (h1.below hB3) (h2.below hB3) (h3.below hB3) hn).mono ?_
    rintro e w4 ⟨X1, X2, X3, rfl, l1, l2, l3, r1, r2, r3, hb4⟩
    simp only [World.size_alloc] at l1
    have sX := r3.lt
    have OX : Own3 w4 (w3.heap.size + 1) (.slice (some ⟨X1, 0, none⟩) n1 n1) (.slice (some ⟨X2, 0, none⟩) n2 n2) (.slice (some ⟨X3, 0, none⟩) n3 n3) x1 x2 x3 :=
      ⟨row_ob r1 l1 S1.out.2.2 m1 S1.out.2.1, row_ob r2 (by omega) S2.out.2.2 m2 S2.out.2.1, row_ob r3 (by omega) S3.out.2.2 m3 S3.out.2.1, fun k j hk hj => by simp [Value.ownBlock] at hk hj; omega, fun k j hk hj => by simp [Value.ownBlock] at hk hj; omega, fun k j hk hj => by simp [Value.ownBlock] at hk hj; omega⟩
    have RX : ∀ k, Blks (.slice (some ⟨X1, 0, none⟩) n1 n1) (.slice (some ⟨X2, 0, none⟩) n2 n2) (.slice (some ⟨X3, 0, none⟩) n3 n3) k → w3.heap.size + 1 ≤ k ∧ k < w4.heap.size := own3_range OX
    have z4 := hb4.size
    simp only [World.size_alloc] at z4
    have k4 := (hk3.below hb4).alloc (.cells #[.slice (some ⟨X1, 0, none⟩) n1 n1, .slice (some ⟨X2, 0, none⟩) n2 n2, .slice (some ⟨X3, 0, none⟩) n3 n3] 38)
    have kW := (kW.below hb4).alloc (.cells #[.slice (some ⟨X1, 0, none⟩) n1 n1, .slice (some ⟨X2, 0, none⟩) n2 n2, .slice (some ⟨X3, 0, none⟩) n3 n3] 38)
    have OW := own3_alloc (own3_below OW hb4) (.cells #[.slice (some ⟨X1, 0, none⟩) n1 n1, .slice (some ⟨X2, 0, none⟩) n2 n2, .slice (some ⟨X3, 0, none⟩) n3 n3] 38)
    have kX := Blk.new w4 #[.slice (some ⟨X1, 0, none⟩) n1 n1, .slice (some ⟨X2, 0, none⟩) n2 n2, .slice (some ⟨X3, 0, none⟩) n3 n3] 38
    have OX := own3_alloc OX (.cells #[.slice (some ⟨X1, 0, none⟩) n1 n1, .slice (some ⟨X2, 0, none⟩) n2 n2, .slice (some ⟨X3, 0, none⟩) n3 n3] 38)
    have hB4 := (hB3.trans (hb4.mono hB3.size)).alloc (by omega) (.cells #[.slice (some ⟨X1, 0, none⟩) n1 n1, .slice (some ⟨X2, 0, none⟩) n2 n2, .slice (some ⟨X3, 0, none⟩) n3 n3] 38)
    clear hb4 hB3 hk3 r1 r2 r3 q1 q2 q3 q4
    go_wp2_with fail
    refine (iWrite_any X1 0 X2 0 X3 0 n1 n1 n2 n2 n3 n3 x1 x2 x3 p s v _ (own3_bs OX).1 (own3_bs OX).2.1 (own3_bs OX).2.2 hn hv hmax).mono ?_
    rw [HR.out]
    rintro e w5 ⟨B1, N1, E1, B2, N2, E2, B3, N3, E3, rfl, OG, hb5⟩
    simp only [World.size_alloc] at OG
    have RG : ∀ k, Blks (.slice B1 N1 E1) (.slice B2 N2 E2) (.slice B3 N3 E3) k → w4.heap.size + 1 ≤ k ∧ k < w5.heap.size := own3_range OG
    have z5 := hb5.size
    simp only [World.size_alloc] at z5
    have k5 := (k4.below hb5).alloc (.cells #[.slice B1 N1 E1, .slice B2 N2 E2, .slice B3 N3 E3] 38)
    have kW := (kW.below hb5).alloc (.cells #[.slice B1 N1 E1, .slice B2 N2 E2, .slice B3 N3 E3] 38)
    have kX := (kX.below hb5).alloc (.cells #[.slice B1 N1 E1, .slice B2 N2 E2, .slice B3 N3 E3] 38)
    have OW := own3_alloc (own3_below OW hb5) (.cells #[.slice B1 N1 E1, .slice B2 N2 E2, .slice B3 N3 E3] 38)
    have OX := own3_alloc (own3_below OX hb5) (.cells #[.slice B1 N1 E1, .slice B2 N2 E2, .slice B3 N3 E3] 38)
    have kg := Blk.new w5 #[.slice B1 N1 E1, .slice B2 N2 E2, .slice B3 N3 E3] 38
    have OG := own3_alloc OG (.cells #[.slice B1 N1 E1, .slice B2 N2 E2, .slice B3 N3 E3] 38)
    have hB5 := (hB4.trans (hb5.mono hB4.size)).alloc (by omega) (.cells #[.slice B1 N1 E1, .slice B2 N2 E2, .slice B3 N3 E3] 38)
    clear hb5 hB4 k4
    obtain ⟨q1, q2, q3, q4⟩ := kW.three
    obtain ⟨q5, q6, q7, q8⟩ := kg.three
    have hnf : (f != f) = false := by simp
    go_wp2_with fail
    refine (eqMem_same _ _ _ _ _ _ N1 E1 N2 E2 N3 E3 M1 D1 M2 D2 M3 D3 y1 y2 y3 _ (own3_bs OG).1 (own3_bs OG).2.1 (own3_bs OG).2.2 (own3_bs OW).1 (own3_bs OW).2.1 (own3_bs OW).2.2).mono ?_
    rintro e w6 ⟨rfl, hb6⟩
    have k6 := k5.below hb6
    have kW := kW.below hb6
    have kX := kX.below hb6
    have kg := kg.below hb6
    have OW := own3_below OW hb6
    have OX := own3_below OX hb6
    have OG := own3_below OG hb6
    have z6 := hb6.size
    simp only [World.size_alloc] at z6
    have hB6 := hB5.trans (hb6.mono hB5.size)
    clear hb6 hB5 k5 q1 q2 q3 q4 q5 q6 q7 q8
    have B1' := h1.below hB6
    have B2' := h2.below hB6
    have B3' := h3.below hB6
    obtain ⟨q1, q2, q3, q4⟩ := k6.three
    obtain ⟨q5, q6, q7, q8⟩ := kX.three
    go_wp2_with fail
    go_region_held3 (fun w' => w'.cell? ⟨w.heap.size, 0, none⟩ = some (.slice a1 n1 c1) ∧ w'.cell? ⟨w.heap.size, 1, none⟩ = some (.slice a2 n2 c2) ∧ w'.cell? ⟨w.heap.size, 2, none⟩ = some (.slice a3 n3 c3) ∧ w'.cell? ⟨w4.heap.size, 0, none⟩ = some (.slice (some ⟨X1, 0, none⟩) n1 n1) ∧ w'.cell? ⟨w4.heap.size, 1, none⟩ = some (.slice (some ⟨X2, 0, none⟩) n2 n2) ∧ w'.cell? ⟨w4.heap.size, 2, none⟩ = some (.slice (some ⟨X3, 0, none⟩) n3 n3)) (go_keep)
      (first
        | (go_at_call 17; refine (toMem_any a1 a2 a3 n1 c1 n2 c2 n3 c3 x1 x2 x3 _ (by exact B1') (by exact B2') (by exact B3') hn).mono ?_; rintro e w7 ⟨u1, u2, u3, rfl, _, _, _, s1, s2, s3, hb7⟩; replace hb7 := undrew hb7; obtain ⟨q1, q2, q3, q4⟩ := (k6.below hb7).three; obtain ⟨q5, q6, q7, q8⟩ := (kX.below hb7).three)
        | (go_at_call 19; refine (eqMem_same _ _ _ _ _ _ n1 n1 n2 n2 n3 n3 n1 n1 n2 n2 n3 n3 x1 x2 x3 _ (own3_bs (own3_below OX hb7)).1 (own3_bs (own3_below OX hb7)).2.1 (own3_bs (own3_below OX hb7)).2.2 (s1.bs S1.out.1 S1.out.2.1 _ _ S1.out.2.2) (s2.bs S2.out.1 S2.out.2.1 _ _ S2.out.2.2) (s3.bs S3.out.1 S3.out.2.1 _ _ S3.out.2.2)).mono ?_; rintro e w8 ⟨rfl, hb8⟩; replace hb8 := hb7.trans (hb8.mono hb7.size); obtain ⟨q1, q2, q3, q4⟩ := (k6.below hb8).three; obtain ⟨q5, q6, q7, q8⟩ := (kX.below hb8).three))
    have k8 := k6.below hb8
    have kW := kW.below hb8
    have kX := kX.below hb8
    have kg := kg.below hb8
    have OW := own3_below OW hb8
    have OX := own3_below OX hb8
    have OG := own3_below OG hb8
    have z8 := hb8.size
    have hB8 := hB6.trans (hb8.mono hB6.size)
    clear hb8 hb7 hB6 k6 s1 s2 s3 B1' B2' B3'
    go_wp2_with fail
    clear q1 q2 q3 q4 q5 q6 q7 q8
    refine (markMem_any _ _ _ n1 n1 n2 n2 n3 n3 _ x1 x2 x3 _ OX (by omega)).mono ?_
    obtain ⟨K, hK⟩ : ∃ K : Int, K = ((1 + n1 + n2 + n3 : Nat) : Int) := ⟨_, rfl⟩
    have hK0 : 0 ≤ K := by omega
    rw [← hK]
    have HK := hide hK
    clear hK
    rintro e w9 ⟨rfl, OX, t9⟩
    have zt := t9.size
    have k9 := turn_blk t9 k8 (fun e => by have := RX _ e; omega)
    have kW := turn_blk t9 kW (fun e => by have := RX _ e; omega)
    have kg := turn_blk t9 kg (fun e => by have := RX _ e; omega)
    have OW := own3_turn OW t9 (fun k hk e => by have := RX k e; have := RW k hk; omega)
    have OG := own3_turn OG t9 (fun k hk e => by have := RX k e; have := RG k hk; omega)
    have hB9 := below_turn hB8 t9 (fun k hk => by have := RX k hk; omega) hB8.size
    clear t9 OX kX k8 hB8
    obtain ⟨q1, q2, q3, q4⟩ := kW.three
    obtain ⟨q5, q6, q7, q8⟩ := kg.three
    go_wp2_with fail
    refine (eqMem_same _ _ _ _ _ _ N1 E1 N2 E2 N3 E3 M1 D1 M2 D2 M3 D3 y1 y2 y3 _ (own3_bs OG).1 (own3_bs OG).2.1 (own3_bs OG).2.2 (own3_bs OW).1 (own3_bs OW).2.1 (own3_bs OW).2.2).mono ?_
    rintro e w10 ⟨rfl, hb10⟩
    have k10 := k9.below hb10
    have kW := kW.below hb10
    have kg := kg.below hb10
    have OW := own3_below OW hb10
    have OG := own3_below OG hb10
    have z10 := hb10.size
    have hB10 := hB9.trans (hb10.mono hB9.size)
    clear hb10 hB9 k9 q1 q2 q3 q4 q5 q6 q7 q8
    obtain ⟨q5, q6, q7, q8⟩ := kg.three
    have hN : N1 + N2 + N3 ≤ 1048577 := by
      have e1 := (own3_bs OG).1.1
      have e2 := (own3_bs OG).2.1.1
      have e3 := (own3_bs OG).2.2.1
      have := HL.out
      omega
    go_wp2_with fail
    refine (markMem_any _ _ _ N1 E1 N2 E2 N3 E3 _ y1 y2 y3 _ OG (by omega)).mono ?_
    obtain ⟨K2, hK2⟩ : ∃ K : Int, K = ((1 + N1 + N2 + N3 : Nat) : Int) := ⟨_, rfl⟩
    have hK20 : 0 ≤ K2 := by omega
    rw [← hK2]
    have HK2 := hide hK2
    clear hK2
    rintro e w11 ⟨rfl, OG, t11⟩
    have zt11 := t11.size
    have k11 := turn_blk t11 k10 (fun e => by have := RG _ e; omega)
    have kW := turn_blk t11 kW (fun e => by have := RG _ e; omega)
    have kg := turn_blk t11 kg (fun e => by have := RG _ e; omega)
    have OW := own3_turn OW t11 (fun k hk e => by have := RG k e; have := RW k hk; omega)
    have hB11 := below_turn hB10 t11 (fun k hk => by have := RG k hk; omega) hB10.size
    clear t11 k10 hB10 q5 q6 q7 q8
    obtain ⟨q5, q6, q7, q8⟩ := kg.three
    go_wp2_with fail
    refine (heldMem_any _ _ _ N1 E1 N2 E2 N3 E3 _ (own3_bs OG).1 (own3_bs OG).2.1 (own3_bs OG).2.2 (by omega)).mono ?_
    rw [← HK2.out]
    rintro e w12 ⟨rfl, hb12⟩
    have k12 := k11.below hb12
    have kW := kW.below hb12
    have OW := own3_below OW hb12
    have z12 := hb12.size
    have hB12 := hB11.trans (hb12.mono hB11.size)
    clear hb12 hB11 k11 OG kg q5 q6 q7 q8
    obtain ⟨q1, q2, q3, q4⟩ := k12.three
    have hK2e : (K2 != K2) = false := by simp
    go_wp2_with fail
    refine (toMem_any a1 a2 a3 n1 c1 n2 c2 n3 c3 x1 x2 x3 _ (h1.below hB12) (h2.below hB12) (h3.below hB12) hn).mono ?_
    rintro e w13 ⟨Y1, Y2, Y3, rfl, _, _, _, r1, r2, r3, hb13⟩
    have kW := kW.below hb13
    have OW := own3_below OW hb13
    have z13 := hb13.size
    have hB13 := hB12.trans (hb13.mono hB12.size)
    clear hb13 hB12 k12 q1 q2 q3 q4
    go_wp2_with fail
    refine (iWrite_any Y1 0 Y2 0 Y3 0 n1 n1 n2 n2 n3 n3 x1 x2 x3 p s v _ (r1.bs S1.out.1 S1.out.2.1 _ _ S1.out.2.2) (r2.bs S2.out.1 S2.out.2.1 _ _ S2.out.2.2) (r3.bs S3.out.1 S3.out.2.1 _ _ S3.out.2.2) hn hv hmax).mono ?_
    rw [HR.out]
    rintro e w14 ⟨C1, L1, F1, C2, L2, F2, C3, L3, F3, rfl, OH, hb14⟩
    simp only at OH
    have kW := (kW.below hb14).alloc (.cells #[.slice C1 L1 F1, .slice C2 L2 F2, .slice C3 L3 F3] 38)
    have OW := own3_alloc (own3_below OW hb14) (.cells #[.slice C1 L1 F1, .slice C2 L2 F2, .slice C3 L3 F3] 38)
    have kh := Blk.new w14 #[.slice C1 L1 F1, .slice C2 L2 F2, .slice C3 L3 F3] 38
    have OH := own3_alloc OH (.cells #[.slice C1 L1 F1, .slice C2 L2 F2, .slice C3 L3 F3] 38)
    have z14 := hb14.size
    have hB14 := (hB13.trans (hb14.mono hB13.size)).alloc (by omega) (.cells #[.slice C1 L1 F1, .slice C2 L2 F2, .slice C3 L3 F3] 38)
    clear hb14 hB13 r1 r2 r3
    obtain ⟨q1, q2, q3, q4⟩ := kW.three
    obtain ⟨q5, q6, q7, q8⟩ := kh.three
    go_wp2_with fail
    refine (eqMem_same _ _ _ _ _ _ L1 F1 L2 F2 L3 F3 M1 D1 M2 D2 M3 D3 y1 y2 y3 _ (own3_bs OH).1 (own3_bs OH).2.1 (own3_bs OH).2.2 (own3_bs OW).1 (own3_bs OW).2.1 (own3_bs OW).2.2).mono ?_
    rintro e w15 ⟨rfl, hb15⟩
    have hB15 := hB14.trans (hb15.mono hB14.size)
    clear hb15 hB14 q1 q2 q3 q4 q5 q6 q7 q8
    go_wp2
    go_ret
    exact ⟨rfl, hB15⟩
end Go.Proofs.Ythnelonbpbhhbab
