import Derived.Test.YtngdgogjlpjjpadGreatK51
import Derived.Deep.RegionHeld3
import Derived.Test.YtngdgogjlpjjpadGreatK50
import Derived.Test.YtngdgogjlpjjpadGreatK35
import Derived.Test.YtngdgogjlpjjpadGreatK12
import Derived.Test.YtngdgogjlpjjpadGreatK00
import Derived.ProofKit
import Derived.OpenShut
import Derived.ShutString
import Derived.ChangeOld
import Derived.Test.YtngdgogjlpjjpadGreatK13
import Derived.Deep.Slices
namespace Go.Proofs.YtngdgogjlpjjpadGreat
open Go.RowKit
set_option linter.unusedVariables false
set_option linter.unusedSimpArgs false
set_option maxRecDepth 100000

def LenOk (L M : Nat) (r : Res) : Prop := r.rg.length = L ∧ r.x1.length + r.x2.length + r.x3.length ≤ M
theorem len_ite {L M : Nat} {a b : Res} {c : Prop} [Decidable c] (h : LenOk L M a) (k : LenOk L M b) : LenOk L M (if c then a else b) := by split <;> assumption
theorem step_len (pc : Int) (n : Nat) (zs : List Int) (n1 n2 n3 : Nat) (x1 x2 x3 : List Int) (rs : List Rg) (rn : Nat) : LenOk zs.length (x1.length + x2.length + x3.length + 1) (stepF pc n zs n1 n2 n3 x1 x2 x3 rs rn) := by
  have hw := fun p s v => wrm_len n1 n2 n3 x1 x2 x3 p s v
  unfold stepF stp opr sto ldo
  repeat' apply len_ite
  all_goals first | exact ⟨rfl, hw _ _ _⟩ | exact ⟨rfl, Nat.le_succ _⟩ | exact ⟨by simp, Nat.le_succ _⟩
theorem own_int {W : World} {base : Nat} {v : Value} {zs : List Int} (h : OI W base v zs) (k : Nat) (hk : v.ownBlock = some k) : ∃ cur, Blk W k cur 3 := by
  obtain ⟨⟨_, h⟩, _⟩ := h
  rcases h with ⟨rfl, _⟩ | ⟨g, cap, cur, rfl, _, hh, _⟩
  · simp [Value.ownBlock] at hk
  · simp [Value.ownBlock] at hk
    subst hk
    exact ⟨cur, hh⟩

set_option maxHeartbeats 8000000 in
theorem exactStep_walk (pc : Int) (ka : Option Addr) (kn kq : Nat) (kz : List Int) (a1 a2 a3 : Option Addr) (n1 c1 n2 c2 n3 c3 : Nat) (x1 x2 x3 : List Int) (ra : Option Addr) (rn rc : Nat) (rs : List Rg) (w : World) (hc : IS w ka kn kq kz) (h1 : BS w a1 n1 c1 x1) (h2 : BS w a2 n2 c2 x2) (h3 : BS w a3 n3 c3 x3) (hr : RS w ra rn rc rs) :
    Calls Tryz.prog 4 #[.agg #[.int .i64 pc, .slice ka kn kq], .agg #[.slice a1 n1 c1, .slice a2 n2 c2, .slice a3 n3 c3], .slice ra rn rc] w fun e w' => e = .returned (.bool true) ∧ Below w.heap.size w w' := by
  have m0 := hc.2.1
  have m1 := h1.2.1
  have m2 := h2.2.1
  have m3 := h3.2.1
  have m4 := hr.2.1
  obtain ⟨WB, hWB⟩ : ∃ X, X = (w.alloc (.cells #[.int .i64 pc, .slice ka kn kq] 52)).alloc (.cells #[.slice a1 n1 c1, .slice a2 n2 c2, .slice a3 n3 c3] 53) := ⟨_, rfl⟩
  have hB0 : Below w.heap.size w WB := by rw [hWB]; exact ((Below.refl _ _).alloc (Nat.le_refl _) _).alloc (by simp) _
  have kc0 : Blk WB w.heap.size #[.int .i64 pc, .slice ka kn kq] 52 := by rw [hWB]; exact (Blk.new w _ _).alloc _
  have km0 : Blk WB (w.heap.size + 1) #[.slice a1 n1 c1, .slice a2 n2 c2, .slice a3 n3 c3] 53 := by rw [hWB]; have := Blk.new (w.alloc (.cells #[.int .i64 pc, .slice ka kn kq] 52)) #[.slice a1 n1 c1, .slice a2 n2 c2, .slice a3 n3 c3] 53; simpa using this
  have SC := hide (show kz.length ≤ maxLen ∧ (∀ z ∈ kz, wfi z) ∧ kz.length = kn from ⟨by rw [hc.1]; exact m0, hc.2.2.1, hc.1⟩)
  have S1 := hide (show x1.length ≤ maxLen ∧ (∀ z ∈ x1, 0 ≤ z ∧ z ≤ 255) ∧ x1.length = n1 from ⟨by rw [h1.1]; exact m1, h1.2.2.1, h1.1⟩)
  have S2 := hide (show x2.length ≤ maxLen ∧ (∀ z ∈ x2, 0 ≤ z ∧ z ≤ 255) ∧ x2.length = n2 from ⟨by rw [h2.1]; exact m2, h2.2.2.1, h2.1⟩)
  have S3 := hide (show x3.length ≤ maxLen ∧ (∀ z ∈ x3, 0 ≤ z ∧ z ≤ 255) ∧ x3.length = n3 from ⟨by rw [h3.1]; exact m3, h3.2.2.1, h3.1⟩)
  have SR := hide (show rs.length ≤ maxLen ∧ (∀ g ∈ rs, wfi g.1 ∧ wfi g.2.1 ∧ wfi g.2.2.1) ∧ rs.length = rn from ⟨by rw [hr.1]; exact m4, hr.2.2.1, hr.1⟩)
  have HWB := hide hWB
  clear hWB
  have lw := km0.lt
  by_cases s0 : (1048576 : Int) < (kn : Int)
  · obtain ⟨q1, q2, q3⟩ := kc0.two'
    go_enter Tryz.func4, Tryz.ntmps4
    go_wp2_with (rw [← HWB.out])
    refine (szCore_lo pc ka kn kq _ _ (by omega) (by omega) m0 s0).mono ?_
    rintro e w1 ⟨rfl, hb1⟩
    go_wp2
    go_ret
    exact ⟨rfl, hB0.trans (hb1.mono hB0.size)⟩
  by_cases s1 : (1048576 : Int) - kn < (n1 : Int) + n2 + n3
  · obtain ⟨q1, q2, q3⟩ := kc0.two'
    go_enter Tryz.func4, Tryz.ntmps4
    go_wp2_with (rw [← HWB.out])
    refine (szCore_hi pc ka kn kq _ _ (by omega) (by omega) m0 (by omega)).mono ?_
    rintro e w1 ⟨rfl, hb1⟩
    have km1 := km0.below hb1
    have hB1 := hB0.trans (hb1.mono hB0.size)
    have hL : ¬ (1048576 : Int) - kn < 0 := by omega
    clear hb1 hB0 km0 kc0 q1 q2 q3
    obtain ⟨q1, q2, q3, q4⟩ := km1.three
    go_wp2_with fail
    refine (szMem_lo a1 a2 a3 n1 c1 n2 c2 n3 c3 _ _ (by omega) (by omega) m1 m2 m3 s1).mono ?_
    rintro e w2 ⟨rfl, hb2⟩
    go_wp2
    go_ret
    exact ⟨rfl, hB1.trans (hb2.mono hB1.size)⟩
  by_cases s2 : (1048576 : Int) - kn - n1 - n2 - n3 < (rn : Int)
  · obtain ⟨q1, q2, q3⟩ := kc0.two'
    go_enter Tryz.func4, Tryz.ntmps4
    go_wp2_with (rw [← HWB.out])
    refine (szCore_hi pc ka kn kq _ _ (by omega) (by omega) m0 (by omega)).mono ?_
    rintro e w1 ⟨rfl, hb1⟩
    have km1 := km0.below hb1
    have hB1 := hB0.trans (hb1.mono hB0.size)
    have hL : ¬ (1048576 : Int) - kn < 0 := by omega
    clear hb1 hB0 km0 kc0 q1 q2 q3
    obtain ⟨q1, q2, q3, q4⟩ := km1.three
    go_wp2_with fail
    refine (szMem_hi a1 a2 a3 n1 c1 n2 c2 n3 c3 _ _ (by omega) (by omega) m1 m2 m3 (by omega)).mono ?_
    rintro e w2 ⟨rfl, hb2⟩
    have hB2 := hB1.trans (hb2.mono hB1.size)
    have hL2 : ¬ (1048576 : Int) - kn - n1 - n2 - n3 < 0 := by omega
    clear hb2 hB1 km1 q1 q2 q3 q4
    go_wp2_with fail
    refine (szRegionS_lo ra rn rc _ _ (by omega) (by omega) m4 s2).mono ?_
    rintro e w3 ⟨rfl, rfl⟩
    go_wp2
    go_ret
    exact ⟨rfl, hB2⟩
  have hkn : kn ≤ 1048576 := by omega
  have hn : n1 + n2 + n3 ≤ 1048576 := by omega
  have hrn : rn ≤ 1048576 := by omega
  obtain ⟨R, hR⟩ : ∃ R, stepF pc kn kz n1 n2 n3 x1 x2 x3 rs rn = R := ⟨_, rfl⟩
  have HR := hide hR
  clear hR
  obtain ⟨q1, q2, q3⟩ := kc0.two'
  go_enter Tryz.func4, Tryz.ntmps4
  go_wp2_with (rw [← HWB.out])
  refine (szCore_hi pc ka kn kq _ _ (by omega) (by omega) m0 (by omega)).mono ?_
  rintro e w1 ⟨rfl, hb1⟩
  have kc1 := kc0.below hb1
  have km1 := km0.below hb1
  have hB1 := hB0.trans (hb1.mono hB0.size)
  have hL : ¬ (1048576 : Int) - kn < 0 := by omega
  clear hb1 hB0 km0 kc0 q1 q2 q3
  obtain ⟨q1, q2, q3, q4⟩ := km1.three
  go_wp2_with fail
  refine (szMem_hi a1 a2 a3 n1 c1 n2 c2 n3 c3 _ _ (by omega) (by omega) m1 m2 m3 (by omega)).mono ?_
  rintro e w2 ⟨rfl, hb2⟩
  have kc2 := kc1.below hb2
  have km2 := km1.below hb2
  have hB2 := hB1.trans (hb2.mono hB1.size)
  have hL2 : ¬ (1048576 : Int) - kn - n1 - n2 - n3 < 0 := by omega
  clear hb2 hB1 km1 kc1 q1 q2 q3 q4
  go_wp2_with fail
  refine (szRegionS_hi ra rn rc _ _ (by omega) (by omega) m4 (by omega)).mono ?_
  rintro e w3 ⟨rfl, rfl⟩
  have hL3 : ¬ (1048576 : Int) - kn - n1 - n2 - n3 - rn < 0 := by omega
  have hc2 := hc.below hB2
  have h12 := h1.below hB2
  have h22 := h2.below hB2
  have h32 := h3.below hB2
  have hr2 := hr.below hB2
  go_wp2_with fail
  have HLEN := hide (step_len pc kn kz n1 n2 n3 x1 x2 x3 rs rn)
  rw [HR.out, SC.out.2.2, S1.out.2.2, S2.out.2.2, S3.out.2.2] at HLEN
  refine region11 _ w2 w.heap.size (w.heap.size + 1) _ pc ka kn kq kz a1 a2 a3 n1 c1 n2 c2 n3 c3 x1 x2 x3 ra rn rc rs R (by kernel_rfl) (by kernel_rfl) (by kernel_rfl) (by kernel_rfl) kc2 km2 hc2 h12 h22 h32 hr2 hkn hn hrn HR (by kernel_rfl) ?_
  intro y0 y1 y2 y3 y4 y5 y6 y7 y8 y9 y10 y11 ca nr cc A1 M1 D1 A2 M2 D2 A3 M3 D3 G0 G1 w3 hb OC OW l0 l1 kW0 kW1
  have hB := hB2.trans (hb.mono hB2.size)
  have kc := kc2.below hb
  have km := km2.below hb
  have z2 := km2.lt
  have z3 := hb.size
  clear hb kc2 km2 hc2 h12 h22 h32 hr2 hB2
  simp only [putL, List.foldl, Act.put, List.setIfInBounds_toArray, List.set_cons_zero, List.set_cons_succ]
  have g0lt := kW0.lt
  have g1lt := kW1.lt
  have rC : ∀ k, (Value.slice ca nr cc).ownBlock = some k → k < w3.heap.size := fun k hk => (OC.lt k hk).2
  have rW : ∀ k, Blks (.slice A1 M1 D1) (.slice A2 M2 D2) (.slice A3 M3 D3) k → k < w3.heap.size := fun k hk => (own3_range OW k hk).2
  obtain ⟨q1, q2, q3⟩ := kc.two'
  go_wp2_with fail
  clear q1 q2 q3
  refine (toCore_any pc ka kn _ kz _ (hc.below hB) hkn).mono ?_
  rintro e w4 ⟨gx, hgx, rfl, rx, hb⟩
  have z4 := hb.size
  have kc := kc.below hb
  have km := km.below hb
  have kW0 := kW0.below hb
  have kW1 := kW1.below hb
  have OC := OC.below hb
  have OW := own3_below OW hb
  have hB := hB.trans (hb.mono hB.size)
  clear hb
  have lx := rx.lt
  have X0 : OI w4 w3.heap.size (.slice (some ⟨gx, 0, none⟩) kn kn) kz := by have := rx.oi hgx SC.out.1 SC.out.2.1; rw [SC.out.2.2] at this; exact this
  have r0 : ∀ k, (Value.slice (some ⟨gx, 0, none⟩) kn kn).ownBlock = some k → w3.heap.size ≤ k ∧ k < w4.heap.size := fun k hk => by simp [Value.ownBlock] at hk; omega
  clear rx
  have hA : Below w4.heap.size w4 (w4.alloc (.cells #[.int .i64 pc, .slice (some ⟨gx, 0, none⟩) kn kn] 58)) := (Below.refl _ _).alloc (Nat.le_refl _) _
  have kc := kc.below hA
  have km := km.below hA
  have kW0 := kW0.below hA
  have kW1 := kW1.below hA
  have OC := OC.below hA
  have OW := own3_below OW hA
  have X0 := X0.below hA
  have hB := hB.trans (hA.mono hB.size)
  clear hA
  have kX0 := Blk.new w4 #[.int .i64 pc, .slice (some ⟨gx, 0, none⟩) kn kn] 58
  obtain ⟨q1, q2, q3, q4⟩ := km.three
  go_wp2_with fail
  clear q1 q2 q3 q4
  refine (toMem_any a1 a2 a3 n1 _ n2 _ n3 _ x1 x2 x3 _ (h1.below hB) (h2.below hB) (h3.below hB) hn).mono ?_
  rintro e w5 ⟨g1, g2, g3, rfl, hg1, hg2, hg3, r1, r2, r3, hb⟩
  have z5 := hb.size
  simp only [World.size_alloc] at z5 hg1
  have kc := kc.below hb
  have km := km.below hb
  have kW0 := kW0.below hb
  have kW1 := kW1.below hb
  have OC := OC.below hb
  have OW := own3_below OW hb
  have X0 := X0.below hb
  have kX0 := kX0.below hb
  have hB := hB.trans (hb.mono hB.size)
  clear hb
  have l3 := r3.lt
  have X1 : Own3 w5 (w4.heap.size + 1) (.slice (some ⟨g1, 0, none⟩) n1 n1) (.slice (some ⟨g2, 0, none⟩) n2 n2) (.slice (some ⟨g3, 0, none⟩) n3 n3) x1 x2 x3 := ⟨row_ob r1 hg1 S1.out.2.2 m1 S1.out.2.1, row_ob r2 (by omega) S2.out.2.2 m2 S2.out.2.1, row_ob r3 (by omega) S3.out.2.2 m3 S3.out.2.1, fun k j hk hj => by simp [Value.ownBlock] at hk hj; omega, fun k j hk hj => by simp [Value.ownBlock] at hk hj; omega, fun k j hk hj => by simp [Value.ownBlock] at hk hj; omega⟩
  have rX1 : ∀ k, Blks (.slice (some ⟨g1, 0, none⟩) n1 n1) (.slice (some ⟨g2, 0, none⟩) n2 n2) (.slice (some ⟨g3, 0, none⟩) n3 n3) k → w4.heap.size + 1 ≤ k ∧ k < w5.heap.size := own3_range X1
  clear r1 r2 r3 hg1 hg2 hg3 l3
  have hA : Below w5.heap.size w5 (w5.alloc (.cells #[.slice (some ⟨g1, 0, none⟩) n1 n1, .slice (some ⟨g2, 0, none⟩) n2 n2, .slice (some ⟨g3, 0, none⟩) n3 n3] 38)) := (Below.refl _ _).alloc (Nat.le_refl _) _
  have kc := kc.below hA
  have km := km.below hA
  have kW0 := kW0.below hA
  have kW1 := kW1.below hA
  have OC := OC.below hA
  have OW := own3_below OW hA
  have X0 := X0.below hA
  have kX0 := kX0.below hA
  have X1 := own3_below X1 hA
  have hB := hB.trans (hA.mono hB.size)
  clear hA
  have kX1 := Blk.new w5 #[.slice (some ⟨g1, 0, none⟩) n1 n1, .slice (some ⟨g2, 0, none⟩) n2 n2, .slice (some ⟨g3, 0, none⟩) n3 n3] 38
  go_wp2_with fail
  refine (toRegionS_any ra rn _ rs _ (hr.below hB) hrn).mono ?_
  rintro e w6 ⟨gr, hgr, rfl, rr, hb⟩
  have z6 := hb.size
  simp only [World.size_alloc] at z6 hgr
  have kc := kc.below hb
  have km := km.below hb
  have kW0 := kW0.below hb
  have kW1 := kW1.below hb
  have OC := OC.below hb
  have OW := own3_below OW hb
  have X0 := X0.below hb
  have kX0 := kX0.below hb
  have X1 := own3_below X1 hb
  have kX1 := kX1.below hb
  have hB := hB.trans (hb.mono hB.size)
  clear hb
  have lr := rr.lt
  have X2 : OR w6 (w5.heap.size + 1) (.slice (some ⟨gr, 0, none⟩) rn rn) rs := row_or rr hgr SR.out.2.2 m4 SR.out.2.1
  have hlow : ∀ b off, (some (⟨gr, 0, none⟩ : Addr)) = some ⟨b, off, none⟩ → b < w6.heap.size := fun b off e => by injection e with e; injection e with e1; omega
  clear rr
  obtain ⟨q1, q2, q3⟩ := kX0.two'
  obtain ⟨p1, p2, p3, p4⟩ := kX1.three
  go_wp2_with fail
  clear q1 q2 q3 p1 p2 p3 p4
  refine (iStep_any pc gx 0 kn kn kz g1 0 g2 0 g3 0 n1 n1 n2 n2 n3 n3 x1 x2 x3 (some ⟨gr, 0, none⟩) rn rn rs _ X0.is (own3_bs X1).1 (own3_bs X1).2.1 (own3_bs X1).2.2 (or_rs X2) hlow hkn hn).mono ?_
  rw [HR.out]
  rintro e w7 ⟨ca', nr', cc', A1', M1', D1', A2', M2', D2', A3', M3', D3', rfl, Og, Om, hb⟩
  clear hlow
  have z7 := hb.size
  have kc := kc.below hb
  have km := km.below hb
  have kW0 := kW0.below hb
  have kW1 := kW1.below hb
  have OC := OC.below hb
  have OW := own3_below OW hb
  have X0 := X0.below hb
  have kX0 := kX0.below hb
  have X1 := own3_below X1 hb
  have kX1 := kX1.below hb
  have X2 := turn_or' (S := fun _ => False) (turn_below hb) X2 (fun _ _ h => h)
  have hB := hB.trans (hb.mono hB.size)
  clear hb
  have rg : ∀ k, (Value.slice ca' nr' cc').ownBlock = some k → w6.heap.size ≤ k ∧ k < w7.heap.size := fun k hk => Og.lt k hk
  have rm : ∀ k, Blks (.slice A1' M1' D1') (.slice A2' M2' D2') (.slice A3' M3' D3') k → w6.heap.size ≤ k ∧ k < w7.heap.size := own3_range Om
  have hA : Below w7.heap.size w7 (w7.alloc (.cells #[.int .i64 R.pc, .slice ca' nr' cc'] 58)) := (Below.refl _ _).alloc (Nat.le_refl _) _
  have kc := kc.below hA
  have km := km.below hA
  have kW0 := kW0.below hA
  have kW1 := kW1.below hA
  have OC := OC.below hA
  have OW := own3_below OW hA
  have X0 := X0.below hA
  have kX0 := kX0.below hA
  have X1 := own3_below X1 hA
  have kX1 := kX1.below hA
  have X2 := turn_or' (S := fun _ => False) (turn_below hA) X2 (fun _ _ h => h)
  have Og := Og.below hA
  have Om := own3_below Om hA
  have hB := hB.trans (hA.mono hB.size)
  clear hA
  have kg := Blk.new w7 #[.int .i64 R.pc, .slice ca' nr' cc'] 58
  have hA : Below (w7.alloc (.cells #[.int .i64 R.pc, .slice ca' nr' cc'] 58)).heap.size (w7.alloc (.cells #[.int .i64 R.pc, .slice ca' nr' cc'] 58)) ((w7.alloc (.cells #[.int .i64 R.pc, .slice ca' nr' cc'] 58)).alloc (.cells #[.slice A1' M1' D1', .slice A2' M2' D2', .slice A3' M3' D3'] 38)) := (Below.refl _ _).alloc (Nat.le_refl _) _
  have kc := kc.below hA
  have km := km.below hA
  have kW0 := kW0.below hA
  have kW1 := kW1.below hA
  have OC := OC.below hA
  have OW := own3_below OW hA
  have X0 := X0.below hA
  have kX0 := kX0.below hA
  have X1 := own3_below X1 hA
  have kX1 := kX1.below hA
  have X2 := turn_or' (S := fun _ => False) (turn_below hA) X2 (fun _ _ h => h)
  have Og := Og.below hA
  have Om := own3_below Om hA
  have kg := kg.below hA
  have hB := hB.trans (hA.mono hB.size)
  clear hA
  have kh := Blk.new (w7.alloc (.cells #[.int .i64 R.pc, .slice ca' nr' cc'] 58)) #[.slice A1' M1' D1', .slice A2' M2' D2', .slice A3' M3' D3'] 38
  simp only [World.size_alloc] at kh
  have nd : (R.did != R.did) = false := by simp
  have nn : (R.num != R.num) = false := by simp
  obtain rfl : nr = nr' := by have e1 := Og.is.1; have e2 := OC.is.1; omega
  obtain ⟨q1, q2, q3⟩ := kg.two'
  obtain ⟨p1, p2, p3⟩ := kW0.two'
  obtain ⟨u1, u2, u3, u4⟩ := kh.three
  obtain ⟨v1, v2, v3, v4⟩ := kW1.three
  go_wp2_with fail
  clear q1 q2 q3 p1 p2 p3 u1 u2 u3 u4 v1 v2 v3 v4
  refine (eqCore_same R.pc _ _ nr cc' cc R.rg _ Og.is OC.is).mono ?_
  rintro e w8 ⟨rfl, hb⟩
  have zz := hb.size
  simp only [World.size_alloc] at zz
  have kc := kc.below hb
  have km := km.below hb
  have kW0 := kW0.below hb
  have kW1 := kW1.below hb
  have OC := OC.below hb
  have OW := own3_below OW hb
  have X0 := X0.below hb
  have kX0 := kX0.below hb
  have X1 := own3_below X1 hb
  have kX1 := kX1.below hb
  have X2 := turn_or' (S := fun _ => False) (turn_below hb) X2 (fun _ _ h => h)
  have Og := Og.below hb
  have Om := own3_below Om hb
  have kg := kg.below hb
  have kh := kh.below hb
  have hB := hB.trans (hb.mono hB.size)
  clear hb
  obtain ⟨q1, q2, q3⟩ := kg.two'
  obtain ⟨p1, p2, p3⟩ := kW0.two'
  obtain ⟨u1, u2, u3, u4⟩ := kh.three
  obtain ⟨v1, v2, v3, v4⟩ := kW1.three
  go_wp2_with fail
  clear q1 q2 q3 p1 p2 p3 u1 u2 u3 u4 v1 v2 v3 v4
  refine (eqMem_same _ _ _ _ _ _ M1' D1' M2' D2' M3' D3' M1 D1 M2 D2 M3 D3 R.x1 R.x2 R.x3 _ (own3_bs Om).1 (own3_bs Om).2.1 (own3_bs Om).2.2 (own3_bs OW).1 (own3_bs OW).2.1 (own3_bs OW).2.2).mono ?_
  rintro e w8x ⟨rfl, hb⟩
  have zx := hb.size
  have kc := kc.below hb
  have km := km.below hb
  have kW0 := kW0.below hb
  have kW1 := kW1.below hb
  have OC := OC.below hb
  have OW := own3_below OW hb
  have X0 := X0.below hb
  have kX0 := kX0.below hb
  have X1 := own3_below X1 hb
  have kX1 := kX1.below hb
  have X2 := turn_or' (S := fun _ => False) (turn_below hb) X2 (fun _ _ h => h)
  have Og := Og.below hb
  have Om := own3_below Om hb
  have kg := kg.below hb
  have kh := kh.below hb
  have hB := hB.trans (hb.mono hB.size)
  clear hb
  have z8 : w7.heap.size + 1 + 1 ≤ w8x.heap.size := by omega
  clear zz zx
  have hcx := hc.below hB
  obtain ⟨q1, q2, q3⟩ := kX0.two'
  obtain ⟨p1, p2, p3⟩ := kc.two'
  go_wp2_with fail
  go_region_held3 (fun w' => w'.cell? ⟨w.heap.size, 0, none⟩ = some (.int .i64 pc) ∧ w'.cell? ⟨w.heap.size, 1, none⟩ = some (.slice ka kn kq) ∧ w'.cell? ⟨w4.heap.size, 0, none⟩ = some (.int .i64 pc) ∧ w'.cell? ⟨w4.heap.size, 1, none⟩ = some (.slice (some ⟨gx, 0, none⟩) kn kn)) (go_keep)
      (first
        | (go_at_call 21; refine (toCore_any pc ka kn _ kz _ (by exact hcx) hkn).mono ?_; rintro e w9 ⟨gy, _, rfl, ry, hb9⟩; replace hb9 := undrew hb9; obtain ⟨q1, q2, q3⟩ := (kX0.below hb9).two'; obtain ⟨p1, p2, p3⟩ := (kc.below hb9).two')
        | (go_at_call 25; refine (eqCore_same pc _ _ kn kn kn kz _ (X0.below hb9).is (ry.is SC.out.1 SC.out.2.1 _ _ SC.out.2.2)).mono ?_; rintro e w10 ⟨rfl, hb⟩; replace hb := hb9.trans (hb.mono hb9.size); obtain ⟨q1, q2, q3⟩ := (kX0.below hb).two'; obtain ⟨p1, p2, p3⟩ := (kc.below hb).two'))
  clear hcx hb9 ry q1 q2 q3 p1 p2 p3
  have z10 := hb.size
  have kc := kc.below hb
  have km := km.below hb
  have kW0 := kW0.below hb
  have kW1 := kW1.below hb
  have OC := OC.below hb
  have OW := own3_below OW hb
  have X0 := X0.below hb
  have kX0 := kX0.below hb
  have X1 := own3_below X1 hb
  have kX1 := kX1.below hb
  have X2 := turn_or' (S := fun _ => False) (turn_below hb) X2 (fun _ _ h => h)
  have Og := Og.below hb
  have Om := own3_below Om hb
  have kg := kg.below hb
  have kh := kh.below hb
  have hB := hB.trans (hb.mono hB.size)
  clear hb
  have h1x := h1.below hB
  have h2x := h2.below hB
  have h3x := h3.below hB
  obtain ⟨q1, q2, q3, q4⟩ := kX1.three
  obtain ⟨p1, p2, p3, p4⟩ := km.three
  go_wp2_with fail
  go_region_held3 (fun w' => w'.cell? ⟨w.heap.size + 1, 0, none⟩ = some (.slice a1 n1 c1) ∧ w'.cell? ⟨w.heap.size + 1, 1, none⟩ = some (.slice a2 n2 c2) ∧ w'.cell? ⟨w.heap.size + 1, 2, none⟩ = some (.slice a3 n3 c3) ∧ w'.cell? ⟨w5.heap.size, 0, none⟩ = some (.slice (some ⟨g1, 0, none⟩) n1 n1) ∧ w'.cell? ⟨w5.heap.size, 1, none⟩ = some (.slice (some ⟨g2, 0, none⟩) n2 n2) ∧ w'.cell? ⟨w5.heap.size, 2, none⟩ = some (.slice (some ⟨g3, 0, none⟩) n3 n3)) (go_keep)
      (first
        | (go_at_call 22; refine (toMem_any a1 a2 a3 n1 _ n2 _ n3 _ x1 x2 x3 _ (by exact h1x) (by exact h2x) (by exact h3x) hn).mono ?_; rintro e w11 ⟨f1, f2, f3, rfl, _, _, _, s1, s2, s3, hb9⟩; replace hb9 := undrew hb9; obtain ⟨q1, q2, q3, q4⟩ := (kX1.below hb9).three; obtain ⟨p1, p2, p3, p4⟩ := (km.below hb9).three)
        | (go_at_call 26; refine (eqMem_same _ _ _ _ _ _ n1 n1 n2 n2 n3 n3 n1 n1 n2 n2 n3 n3 x1 x2 x3 _ (own3_bs (own3_below X1 hb9)).1 (own3_bs (own3_below X1 hb9)).2.1 (own3_bs (own3_below X1 hb9)).2.2 (s1.bs S1.out.1 S1.out.2.1 _ _ S1.out.2.2) (s2.bs S2.out.1 S2.out.2.1 _ _ S2.out.2.2) (s3.bs S3.out.1 S3.out.2.1 _ _ S3.out.2.2)).mono ?_; rintro e w12 ⟨rfl, hb⟩; replace hb := hb9.trans (hb.mono hb9.size); obtain ⟨q1, q2, q3, q4⟩ := (kX1.below hb).three; obtain ⟨p1, p2, p3, p4⟩ := (km.below hb).three))
  clear h1x h2x h3x hb9 s1 s2 s3 q1 q2 q3 q4 p1 p2 p3 p4
  have z12 := hb.size
  have kc := kc.below hb
  have km := km.below hb
  have kW0 := kW0.below hb
  have kW1 := kW1.below hb
  have OC := OC.below hb
  have OW := own3_below OW hb
  have X0 := X0.below hb
  have kX0 := kX0.below hb
  have X1 := own3_below X1 hb
  have kX1 := kX1.below hb
  have X2 := turn_or' (S := fun _ => False) (turn_below hb) X2 (fun _ _ h => h)
  have Og := Og.below hb
  have Om := own3_below Om hb
  have kg := kg.below hb
  have kh := kh.below hb
  have hB := hB.trans (hb.mono hB.size)
  clear hb
  go_wp2_with fail
  refine (toRegionS_any ra rn _ rs _ (hr.below hB) hrn).mono ?_
  rintro e w13 ⟨gs, _, rfl, rr, hb⟩
  have z13 := hb.size
  have kc := kc.below hb
  have km := km.below hb
  have kW0 := kW0.below hb
  have kW1 := kW1.below hb
  have OC := OC.below hb
  have OW := own3_below OW hb
  have X0 := X0.below hb
  have kX0 := kX0.below hb
  have X1 := own3_below X1 hb
  have kX1 := kX1.below hb
  have X2 := turn_or' (S := fun _ => False) (turn_below hb) X2 (fun _ _ h => h)
  have Og := Og.below hb
  have Om := own3_below Om hb
  have kg := kg.below hb
  have kh := kh.below hb
  have hB := hB.trans (hb.mono hB.size)
  clear hb
  go_wp2_with fail
  refine (eqRegionS_same _ _ rn rn rn rs _ (or_rs X2) (rr.rs SR.out.1 SR.out.2.1 _ _ SR.out.2.2)).mono ?_
  rintro e w14 ⟨rfl, hb⟩
  clear rr
  have z14 := hb.size
  have kc := kc.below hb
  have km := km.below hb
  have kW0 := kW0.below hb
  have kW1 := kW1.below hb
  have OC := OC.below hb
  have OW := own3_below OW hb
  have X0 := X0.below hb
  have kX0 := kX0.below hb
  have X1 := own3_below X1 hb
  have kX1 := kX1.below hb
  have X2 := turn_or' (S := fun _ => False) (turn_below hb) X2 (fun _ _ h => h)
  have Og := Og.below hb
  have Om := own3_below Om hb
  have kg := kg.below hb
  have kh := kh.below hb
  have hB := hB.trans (hb.mono hB.size)
  clear hb
  have r2 : ∀ k, (Value.slice (some ⟨gr, 0, none⟩) rn rn).ownBlock = some k → w5.heap.size + 1 ≤ k ∧ k < w6.heap.size := fun k hk => by simp [Value.ownBlock] at hk; omega
  obtain ⟨k1, hk1⟩ : ∃ k1, 1 + kn = k1 := ⟨_, rfl⟩
  obtain ⟨k2, hk2⟩ : ∃ k2, k1 + n1 + n2 + n3 = k2 := ⟨_, rfl⟩
  obtain ⟨k3, hk3⟩ : ∃ k3, k2 + 6 * rn = k3 := ⟨_, rfl⟩
  have HM1 := hide (fun (w : World) (h : OI w w3.heap.size (.slice (some ⟨gx, 0, none⟩) kn kn) kz) => markCore_any pc (some ⟨gx, 0, none⟩) kn kn w3.heap.size kz 1 w h (by omega) (by omega))
  have HM2 := hide (fun (w : World) (h : Own3 w (w4.heap.size + 1) (.slice (some ⟨g1, 0, none⟩) n1 n1) (.slice (some ⟨g2, 0, none⟩) n2 n2) (.slice (some ⟨g3, 0, none⟩) n3 n3) x1 x2 x3) => markMem_k _ _ _ n1 n1 n2 n2 n3 n3 (w4.heap.size + 1) x1 x2 x3 k1 w h (by omega) (by omega))
  have HM3 := hide (fun (w : World) (h : OR w (w5.heap.size + 1) (.slice (some ⟨gr, 0, none⟩) rn rn) rs) => markRegionS_any (some ⟨gr, 0, none⟩) rn rn (w5.heap.size + 1) rs k2 w h (by omega) (by omega))
  rw [hk1] at HM1
  rw [hk2] at HM2
  rw [hk3] at HM3
  have nk : ¬ (k3 : Int) < 0 := by omega
  clear hk1 hk2 hk3
  obtain ⟨q1, q2, q3⟩ := kX0.two'
  go_wp2_with fail
  clear q1 q2 q3
  refine (HM1.out _ X0).mono ?_
  rintro e w15 ⟨rfl, _, t⟩
  have z15 := t.size
  clear X0
  have kc := turn_blk t kc (fun e => by have := r0 _ e; omega)
  have km := turn_blk t km (fun e => by have := r0 _ e; omega)
  have kW0 := turn_blk t kW0 (fun e => by have := r0 _ e; omega)
  have kW1 := turn_blk t kW1 (fun e => by have := r0 _ e; omega)
  have OC := turn_oi t OC (fun k hk e => by have := r0 k e; have := rC k hk; omega)
  have OW := own3_turn OW t (fun k hk e => by have := r0 k e; have := rW k hk; omega)
  have kX0 := turn_blk t kX0 (fun e => by have := r0 _ e; omega)
  have X1 := own3_turn X1 t (fun k hk e => by have := r0 k e; have := rX1 k hk; omega)
  have kX1 := turn_blk t kX1 (fun e => by have := r0 _ e; omega)
  have X2 := turn_or' t X2 (fun k hk e => by have := r0 k e; have := r2 k hk; omega)
  have Og := turn_oi t Og (fun k hk e => by have := r0 k e; have := rg k hk; omega)
  have Om := own3_turn Om t (fun k hk e => by have := r0 k e; have := rm k hk; omega)
  have kg := turn_blk t kg (fun e => by have := r0 _ e; omega)
  have kh := turn_blk t kh (fun e => by have := r0 _ e; omega)
  have hB := below_turn hB t (fun k hk => by have := r0 k hk; omega) hB.size
  clear t
  obtain ⟨q1, q2, q3, q4⟩ := kX1.three
  go_wp2_with fail
  clear q1 q2 q3 q4
  refine (HM2.out _ X1).mono ?_
  rintro e w16 ⟨rfl, _, t⟩
  have z16 := t.size
  clear X1
  have kc := turn_blk t kc (fun e => by have := rX1 _ e; omega)
  have km := turn_blk t km (fun e => by have := rX1 _ e; omega)
  have kW0 := turn_blk t kW0 (fun e => by have := rX1 _ e; omega)
  have kW1 := turn_blk t kW1 (fun e => by have := rX1 _ e; omega)
  have OC := turn_oi t OC (fun k hk e => by have := rX1 k e; have := rC k hk; omega)
  have OW := own3_turn OW t (fun k hk e => by have := rX1 k e; have := rW k hk; omega)
  have kX0 := turn_blk t kX0 (fun e => by have := rX1 _ e; omega)
  have kX1 := turn_blk t kX1 (fun e => by have := rX1 _ e; omega)
  have X2 := turn_or' t X2 (fun k hk e => by have := rX1 k e; have := r2 k hk; omega)
  have Og := turn_oi t Og (fun k hk e => by have := rX1 k e; have := rg k hk; omega)
  have Om := own3_turn Om t (fun k hk e => by have := rX1 k e; have := rm k hk; omega)
  have kg := turn_blk t kg (fun e => by have := rX1 _ e; omega)
  have kh := turn_blk t kh (fun e => by have := rX1 _ e; omega)
  have hB := below_turn hB t (fun k hk => by have := rX1 k hk; omega) hB.size
  clear t
  go_wp2_with fail
  refine (HM3.out _ X2).mono ?_
  rintro e w17 ⟨rfl, _, t⟩
  replace t := t.mono (fun k hk => hk.2)
  have z17 := t.size
  clear X2
  have kc := turn_blk t kc (fun e => by have := r2 _ e; omega)
  have km := turn_blk t km (fun e => by have := r2 _ e; omega)
  have kW0 := turn_blk t kW0 (fun e => by have := r2 _ e; omega)
  have kW1 := turn_blk t kW1 (fun e => by have := r2 _ e; omega)
  have OC := turn_oi t OC (fun k hk e => by have := r2 k e; have := rC k hk; omega)
  have OW := own3_turn OW t (fun k hk e => by have := r2 k e; have := rW k hk; omega)
  have kX0 := turn_blk t kX0 (fun e => by have := r2 _ e; omega)
  have kX1 := turn_blk t kX1 (fun e => by have := r2 _ e; omega)
  have Og := turn_oi t Og (fun k hk e => by have := r2 k e; have := rg k hk; omega)
  have Om := own3_turn Om t (fun k hk e => by have := r2 k e; have := rm k hk; omega)
  have kg := turn_blk t kg (fun e => by have := r2 _ e; omega)
  have kh := turn_blk t kh (fun e => by have := r2 _ e; omega)
  have hB := below_turn hB t (fun k hk => by have := r2 k hk; omega) hB.size
  clear t
  obtain ⟨q1, q2, q3⟩ := kg.two'
  obtain ⟨p1, p2, p3⟩ := kW0.two'
  obtain ⟨u1, u2, u3, u4⟩ := kh.three
  obtain ⟨v1, v2, v3, v4⟩ := kW1.three
  go_wp2_with fail
  clear q1 q2 q3 p1 p2 p3 u1 u2 u3 u4 v1 v2 v3 v4
  refine (eqCore_same R.pc _ _ nr cc' cc R.rg _ Og.is OC.is).mono ?_
  rintro e w18 ⟨rfl, hb⟩
  have zz := hb.size
  have kc := kc.below hb
  have km := km.below hb
  have kW0 := kW0.below hb
  have kW1 := kW1.below hb
  have OC := OC.below hb
  have OW := own3_below OW hb
  have kX0 := kX0.below hb
  have kX1 := kX1.below hb
  have Og := Og.below hb
  have Om := own3_below Om hb
  have kg := kg.below hb
  have kh := kh.below hb
  have hB := hB.trans (hb.mono hB.size)
  clear hb
  obtain ⟨q1, q2, q3⟩ := kg.two'
  obtain ⟨p1, p2, p3⟩ := kW0.two'
  obtain ⟨u1, u2, u3, u4⟩ := kh.three
  obtain ⟨v1, v2, v3, v4⟩ := kW1.three
  go_wp2_with fail
  clear q1 q2 q3 p1 p2 p3 u1 u2 u3 u4 v1 v2 v3 v4
  refine (eqMem_same _ _ _ _ _ _ M1' D1' M2' D2' M3' D3' M1 D1 M2 D2 M3 D3 R.x1 R.x2 R.x3 _ (own3_bs Om).1 (own3_bs Om).2.1 (own3_bs Om).2.2 (own3_bs OW).1 (own3_bs OW).2.1 (own3_bs OW).2.2).mono ?_
  rintro e w18x ⟨rfl, hb⟩
  have zx := hb.size
  have kc := kc.below hb
  have km := km.below hb
  have kW0 := kW0.below hb
  have kW1 := kW1.below hb
  have OC := OC.below hb
  have OW := own3_below OW hb
  have kX0 := kX0.below hb
  have kX1 := kX1.below hb
  have Og := Og.below hb
  have Om := own3_below Om hb
  have kg := kg.below hb
  have kh := kh.below hb
  have hB := hB.trans (hb.mono hB.size)
  clear hb
  clear zz zx
  have hN : nr ≤ 1048576 ∧ M1' + M2' + M3' ≤ 1048577 := by have e1 := (own3_bs Om).1.1; have e2 := (own3_bs Om).2.1.1; have e3 := (own3_bs Om).2.2.1; have e4 := Og.is.1; obtain ⟨e5, e6⟩ := HLEN.out; omega
  obtain ⟨j1, hj1⟩ : ∃ j1, 1 + nr = j1 := ⟨_, rfl⟩
  obtain ⟨j2, hj2⟩ : ∃ j2, j1 + M1' + M2' + M3' = j2 := ⟨_, rfl⟩
  have HG1 := hide (fun (w : World) (h : OI w w6.heap.size (.slice ca' nr cc') R.rg) => markCore_any R.pc ca' nr cc' w6.heap.size R.rg 1 w h (by omega) (by omega))
  have HG2 := hide (fun (w : World) (h : Own3 w w6.heap.size (.slice A1' M1' D1') (.slice A2' M2' D2') (.slice A3' M3' D3') R.x1 R.x2 R.x3) => markMem_k _ _ _ M1' D1' M2' D2' M3' D3' w6.heap.size R.x1 R.x2 R.x3 j1 w h (by omega) (by omega))
  have HG3 := hide (fun (w : World) (h : IS w ca' nr cc' (marksI 1 nr)) => heldCore_any R.pc ca' nr cc' 1 w h (by omega) (by omega))
  have HG4 := hide (fun (w : World) (h1 : BS w A1' M1' D1' (marks j1 M1')) (h2 : BS w A2' M2' D2' (marks (j1 + M1') M2')) (h3 : BS w A3' M3' D3' (marks (j1 + M1' + M2') M3')) => heldMem_k A1' A2' A3' M1' D1' M2' D2' M3' D3' j1 w h1 h2 h3 (by omega) (by omega))
  rw [hj1] at HG1 HG3
  rw [hj2] at HG2 HG4
  have nj1 : ¬ (j1 : Int) < 0 := by omega
  have nj2 : ¬ (j2 : Int) < 0 := by omega
  have njj : ((j2 : Int) != (j2 : Int)) = false := by simp
  clear hj1 hj2 hN
  obtain ⟨q1, q2, q3⟩ := kg.two'
  go_wp2_with fail
  clear q1 q2 q3
  refine (HG1.out _ Og).mono ?_
  have HOG := hide (own_int Og)
  have HNE := hide (show ∀ k, (Value.slice ca' nr cc').ownBlock = some k → ¬ Blks (.slice A1' M1' D1') (.slice A2' M2' D2') (.slice A3' M3' D3') k from fun k e hk => by obtain ⟨cur, kk⟩ := own_int Og k e; rcases hk with h | h | h; exact ob_ne Om.1 kk (by decide) h; exact ob_ne Om.2.1 kk (by decide) h; exact ob_ne Om.2.2.1 kk (by decide) h)
  rintro e w19 ⟨rfl, Og2, t⟩
  have z19 := t.size
  clear Og HOG
  have kc := turn_blk t kc (fun e => by have := rg _ e; omega)
  have km := turn_blk t km (fun e => by have := rg _ e; omega)
  have kW0 := turn_blk t kW0 (fun e => by have := rg _ e; omega)
  have kW1 := turn_blk t kW1 (fun e => by have := rg _ e; omega)
  have OC := turn_oi t OC (fun k hk e => by have := rg k e; have := rC k hk; omega)
  have OW := own3_turn OW t (fun k hk e => by have := rg k e; have := rW k hk; omega)
  have kX0 := turn_blk t kX0 (fun e => by have := rg _ e; omega)
  have kX1 := turn_blk t kX1 (fun e => by have := rg _ e; omega)
  have Om := own3_turn Om t (fun k hk e => HNE.out k e hk)
  have kg := turn_blk t kg (fun e => by have := rg _ e; omega)
  have kh := turn_blk t kh (fun e => by have := rg _ e; omega)
  have hB := below_turn hB t (fun k hk => by have := rg k hk; omega) hB.size
  clear t
  have Og := Og2
  clear Og2
  obtain ⟨q1, q2, q3, q4⟩ := kh.three
  go_wp2_with fail
  clear q1 q2 q3 q4
  refine (HG2.out _ Om).mono ?_
  rintro e w20 ⟨rfl, Om2, t⟩
  have z20 := t.size
  clear Om
  have kc := turn_blk t kc (fun e => by have := rm _ e; omega)
  have km := turn_blk t km (fun e => by have := rm _ e; omega)
  have kW0 := turn_blk t kW0 (fun e => by have := rm _ e; omega)
  have kW1 := turn_blk t kW1 (fun e => by have := rm _ e; omega)
  have OC := turn_oi t OC (fun k hk e => by have := rm k e; have := rC k hk; omega)
  have OW := own3_turn OW t (fun k hk e => by have := rm k e; have := rW k hk; omega)
  have kX0 := turn_blk t kX0 (fun e => by have := rm _ e; omega)
  have kX1 := turn_blk t kX1 (fun e => by have := rm _ e; omega)
  have kg := turn_blk t kg (fun e => by have := rm _ e; omega)
  have kh := turn_blk t kh (fun e => by have := rm _ e; omega)
  have Og := turn_oi t Og (fun k hk e => HNE.out k hk e)
  have hB := below_turn hB t (fun k hk => by have := rm k hk; omega) hB.size
  clear t
  have Om := Om2
  clear Om2
  obtain ⟨q1, q2, q3⟩ := kg.two'
  go_wp2_with fail
  clear q1 q2 q3
  refine (HG3.out _ Og.is).mono ?_
  rintro e w21 ⟨rfl, hb⟩
  have z21 := hb.size
  have kc := kc.below hb
  have km := km.below hb
  have kW0 := kW0.below hb
  have kW1 := kW1.below hb
  have OC := OC.below hb
  have OW := own3_below OW hb
  have kX0 := kX0.below hb
  have kX1 := kX1.below hb
  have kg := kg.below hb
  have kh := kh.below hb
  have Og := Og.below hb
  have Om := own3_below Om hb
  have hB := hB.trans (hb.mono hB.size)
  clear hb
  obtain ⟨q1, q2, q3, q4⟩ := kh.three
  go_wp2_with fail
  clear q1 q2 q3 q4
  refine (HG4.out _ (own3_bs Om).1 (own3_bs Om).2.1 (own3_bs Om).2.2).mono ?_
  rintro e w22 ⟨rfl, hb⟩
  have z22 := hb.size
  have kc := kc.below hb
  have km := km.below hb
  have kW0 := kW0.below hb
  have kW1 := kW1.below hb
  have OC := OC.below hb
  have OW := own3_below OW hb
  have kX0 := kX0.below hb
  have kX1 := kX1.below hb
  have kg := kg.below hb
  have kh := kh.below hb
  have Og := Og.below hb
  have Om := own3_below Om hb
  have hB := hB.trans (hb.mono hB.size)
  clear hb
  clear Og Om kg kh kX0 kX1 HG1 HG2 HG3 HG4 HM1 HM2 HM3 HNE
  go_wp2_with fail
  refine region42 _ w22 w.heap.size (w.heap.size + 1) _ pc ka kn kq kz a1 a2 a3 n1 c1 n2 c2 n3 c3 x1 x2 x3 ra rn rc rs R (by kernel_rfl) (by kernel_rfl) (by kernel_rfl) (by kernel_rfl) kc km (hc.below hB) (h1.below hB) (h2.below hB) (h3.below hB) (hr.below hB) hkn hn hrn HR (by kernel_rfl) ?_
  intro u0 u1 u2 u3 u4 u5 u6 u7 u8 u9 u10 u11 cb ns cd B1 N1 E1 B2 N2 E2 B3 N3 E3 H0 H1 w23 hb OH OK _ _ kH0 kH1
  have z23 := hb.size
  have kc := kc.below hb
  have km := km.below hb
  have kW0 := kW0.below hb
  have kW1 := kW1.below hb
  have OC := OC.below hb
  have OW := own3_below OW hb
  have hB := hB.trans (hb.mono hB.size)
  clear hb
  simp only [putL, List.foldl, Act.put, List.setIfInBounds_toArray, List.set_cons_zero, List.set_cons_succ]
  obtain rfl : nr = ns := by have e1 := OH.is.1; have e2 := OC.is.1; omega
  obtain ⟨q1, q2, q3⟩ := kH0.two'
  obtain ⟨p1, p2, p3⟩ := kW0.two'
  obtain ⟨u1, u2, u3, u4⟩ := kH1.three
  obtain ⟨v1, v2, v3, v4⟩ := kW1.three
  go_wp2_with fail
  clear q1 q2 q3 p1 p2 p3 u1 u2 u3 u4 v1 v2 v3 v4
  refine (eqCore_same R.pc _ _ nr cd cc R.rg _ OH.is OC.is).mono ?_
  rintro e w24 ⟨rfl, hb⟩
  have kc := kc.below hb
  have km := km.below hb
  have kW0 := kW0.below hb
  have kW1 := kW1.below hb
  have OC := OC.below hb
  have OW := own3_below OW hb
  have OH := OH.below hb
  have OK := own3_below OK hb
  have kH0 := kH0.below hb
  have kH1 := kH1.below hb
  have hB := hB.trans (hb.mono hB.size)
  clear hb
  obtain ⟨q1, q2, q3⟩ := kH0.two'
  obtain ⟨p1, p2, p3⟩ := kW0.two'
  obtain ⟨u1, u2, u3, u4⟩ := kH1.three
  obtain ⟨v1, v2, v3, v4⟩ := kW1.three
  go_wp2_with fail
  clear q1 q2 q3 p1 p2 p3 u1 u2 u3 u4 v1 v2 v3 v4
  refine (eqMem_same _ _ _ _ _ _ N1 E1 N2 E2 N3 E3 M1 D1 M2 D2 M3 D3 R.x1 R.x2 R.x3 _ (own3_bs OK).1 (own3_bs OK).2.1 (own3_bs OK).2.2 (own3_bs OW).1 (own3_bs OW).2.1 (own3_bs OW).2.2).mono ?_
  rintro e w25 ⟨rfl, hb⟩
  have kc := kc.below hb
  have km := km.below hb
  have kW0 := kW0.below hb
  have kW1 := kW1.below hb
  have OC := OC.below hb
  have OW := own3_below OW hb
  have OH := OH.below hb
  have OK := own3_below OK hb
  have kH0 := kH0.below hb
  have kH1 := kH1.below hb
  have hB := hB.trans (hb.mono hB.size)
  clear hb
  go_wp2
  go_ret
  exact ⟨rfl, hB⟩
end Go.Proofs.YtngdgogjlpjjpadGreat

namespace Go.Proofs.YtngdgogjlpjjpadGreat
open Go.ChangeShapes Go.WideShapes Go.ChangeAt Go.RowKit
set_option linter.unusedVariables false

theorem own : ownKnob Tryz.prog.godebug = none := by kernel_rfl
theorem laidOut : laidOutB Tryz.prog = true := by kernel_rfl

theorem wf_u8 {z : Int} (h : (Lit.int .u8 z).wf = true) : 0 ≤ z ∧ z ≤ 255 := by
  simp [Lit.wf, IntKind.min, IntKind.max, IntKind.signed, IntKind.bits] at h
  omega

theorem wf_i64 {z : Int} (h : (Lit.int .i64 z).wf = true) : -9223372036854775808 ≤ z ∧ z ≤ 9223372036854775807 := by
  simp [Lit.wf, IntKind.min, IntKind.max, IntKind.signed, IntKind.bits] at h
  omega

set_option maxRecDepth 100000 in
theorem bs_of_trod {H : Type} {enc : TypeId × Value → H} {w : World} {base : Nat} {held : Bool} {fuel : Nat} {cs : List Value} {x : DataW H × List MemPlace}
    (h : DataW.trod enc Tryz.prog w base (fun _ => true) held fuel 22 cs = some x) : ∃ a n cap zs, cs = [.slice a n cap] ∧ BS w a n cap zs := by
  rcases open_ints Tryz.underlying22 Tryz.underlying5 (by kernel_rfl) h with ⟨hcs, _⟩ | ⟨x, l, c, zs, hcs, _, hl, hm, hz, _, hcell, hwz⟩
  · exact ⟨none, 0, 0, [], hcs, rfl, Nat.zero_le _, by simp, fun h => absurd rfl h, Nat.le_refl _⟩
  · simp at hz
    refine ⟨some x, l, c, zs.take l, hcs, by simp; omega, by omega, fun z hz' => wf_u8 (hwz z (List.mem_of_mem_take hz')), fun hl0 => ?_, hl⟩
    obtain ⟨b, off, spot⟩ := x
    have hspot : spot = none := by simpa [Addr.add] using World.cell?_spot (hcell 0 (by omega))
    subst hspot
    refine ⟨b, off, rfl, fun i hi => ?_⟩
    have := hcell i (by omega)
    have ea : (Addr.add ⟨b, off, none⟩ i) = ⟨b, off + i, none⟩ := by
      simp only [Addr.add]
      split
      · next h => subst h; rfl
      · rfl
    rw [ea] at this
    rw [this]
    simp [List.getD_eq_getElem?_getD, hi]

set_option maxRecDepth 100000 in
theorem open_bytes {H : Type} {enc : TypeId × Value → H} {w : World} {base b0 : Nat} {held : Bool} {r : Reach} {v : Value} {d : DataW H} {p : List MemPlace}
    (hv : Value.okWide Tryz.prog w r b0 22 v) (h : DataW.Trod enc Tryz.prog w base (fun _ => true) held 22 v d p) :
    ∃ a n cap zs, v = .slice a n cap ∧ BS w a n cap zs := by
  obtain ⟨a0, len0, cap0, rfl⟩ := okWide_slice Tryz.underlying22 hv
  obtain ⟨fuel, hf⟩ := h
  obtain ⟨a, n, cap, zs, hcs, hb⟩ := bs_of_trod hf
  simp [Value.cells] at hcs
  obtain ⟨rfl, rfl, rfl⟩ := hcs
  exact ⟨_, _, _, zs, rfl, hb⟩

end Go.Proofs.YtngdgogjlpjjpadGreat

namespace Go.Proofs.YtngdgogjlpjjpadGreat
open Go.ChangeShapes Go.WideShapes Go.ChangeAt Go.RowKit
set_option linter.unusedVariables false

theorem array6 {α : Type} {cs : Array α} (h : cs.size = 6) : ∃ c0 c1 c2 c3 c4 c5, cs = #[c0, c1, c2, c3, c4, c5] := by
  obtain ⟨l⟩ := cs
  match l, h with
  | [c0, c1, c2, c3, c4, c5], _ => exact ⟨c0, c1, c2, c3, c4, c5, rfl⟩

set_option maxRecDepth 100000 in
theorem open_region {H : Type} {enc : TypeId × Value → H} {w : World} {base b0 : Nat} {spare : Nat → Bool} {held : Bool} {r : Reach} {v : Value} {d : DataW H} {p : List MemPlace}
    (hv : Value.okWide Tryz.prog w r b0 137 v) (h : DataW.Trod enc Tryz.prog w base spare held 137 v d p) :
    ∃ (b l o : Int) (x y z : Bool), v = .agg #[.int .i64 b, .int .i64 l, .int .i64 o, .bool x, .bool y, .bool z] ∧ (Lit.int .i64 b).wf = true ∧ (Lit.int .i64 l).wf = true ∧ (Lit.int .i64 o).wf = true := by
  obtain ⟨cs, rfl, hsz⟩ := okWide_struct Tryz.underlying137 hv
  obtain ⟨c0, c1, c2, c3, c4, c5, rfl⟩ := array6 (hsz.trans (by kernel_rfl))
  obtain ⟨fuel, hf⟩ := h
  obtain ⟨xs, n, _, _, hl, hlen, hf⟩ := DataW.trod_struct Tryz.underlying137 hf
  match xs, hlen with
  | [y0, y1, y2, y3, y4, y5], _ =>
  have k0 := hf 0 _ rfl
  have k1 := hf 1 _ rfl
  have k2 := hf 2 _ rfl
  have k3 := hf 3 _ rfl
  have k4 := hf 4 _ rfl
  have k5 := hf 5 _ rfl
  have e3 : Tryz.prog.cellsOf 3 = 1 := by kernel_rfl
  have e4 : Tryz.prog.cellsOf 4 = 1 := by kernel_rfl
  simp [Value.cells, e3, e4] at k0 k1 k2 k3 k4 k5
  obtain ⟨a0, h0, _, wa⟩ := DataW.trod_int Tryz.underlying3 k0
  obtain ⟨a1, h1, _, wb⟩ := DataW.trod_int Tryz.underlying3 k1
  obtain ⟨a2, h2, _, wc⟩ := DataW.trod_int Tryz.underlying3 k2
  obtain ⟨a3, h3, _⟩ := DataW.trod_bool Tryz.underlying4 k3
  obtain ⟨a4, h4, _⟩ := DataW.trod_bool Tryz.underlying4 k4
  obtain ⟨a5, h5, _⟩ := DataW.trod_bool Tryz.underlying4 k5
  simp at h0 h1 h2 h3 h4 h5
  subst h0 h1 h2 h3 h4 h5
  exact ⟨a0, a1, a2, a3, a4, a5, rfl, wa, wb, wc⟩


theorem array3 {α : Type} {cs : Array α} (h : cs.size = 3) : ∃ c0 c1 c2, cs = #[c0, c1, c2] := by
  obtain ⟨l⟩ := cs
  match l, h with
  | [c0, c1, c2], _ => exact ⟨c0, c1, c2, rfl⟩

set_option maxRecDepth 100000 in
theorem open_mem {H : Type} {enc : TypeId × Value → H} {w : World} {base b0 : Nat} {held : Bool} {r : Reach} {v : Value} {d : DataW H} {p : List MemPlace}
    (hv : Value.okWide Tryz.prog w r b0 53 v) (h : DataW.Trod enc Tryz.prog w base (fun _ => true) held 53 v d p) :
    ∃ (a1 a2 a3 : Option Addr) (n1 c1 n2 c2 n3 c3 : Nat) (x1 x2 x3 : List Int), v = .agg #[.slice a1 n1 c1, .slice a2 n2 c2, .slice a3 n3 c3] ∧ BS w a1 n1 c1 x1 ∧ BS w a2 n2 c2 x2 ∧ BS w a3 n3 c3 x3 := by
  obtain ⟨cs, rfl, hsz⟩ := okWide_struct Tryz.underlying53 hv
  obtain ⟨c0, c1, c2, rfl⟩ := array3 (hsz.trans (by kernel_rfl))
  obtain ⟨fuel, hf⟩ := h
  obtain ⟨xs, n, _, _, hl, hlen, hf⟩ := DataW.trod_struct Tryz.underlying53 hf
  match xs, hlen with
  | [y0, y1, y2], _ =>
  have k0 := hf 0 _ rfl
  have k1 := hf 1 _ rfl
  have k2 := hf 2 _ rfl
  have e3 : Tryz.prog.cellsOf 22 = 1 := by kernel_rfl
  simp [Value.cells, e3] at k0 k1 k2
  obtain ⟨a1, n1, d1, x1, e1, b1⟩ := bs_of_trod k0
  obtain ⟨a2, n2, d2, x2, e2, b2⟩ := bs_of_trod k1
  obtain ⟨a3, n3, d3, x3, e3, b3⟩ := bs_of_trod k2
  simp at e1 e2 e3
  subst e1 e2 e3
  exact ⟨a1, a2, a3, n1, d1, n2, d2, n3, d3, x1, x2, x3, rfl, b1, b2, b3⟩
end Go.Proofs.YtngdgogjlpjjpadGreat

namespace Go.Proofs.YtngdgogjlpjjpadGreat
open Go.ChangeShapes Go.WideShapes Go.ChangeAt Go.RowKit
set_option linter.unusedVariables false

theorem add6 (b off i : Nat) : (Addr.add ⟨b, off, none⟩ i) = ⟨b, off + i, none⟩ := by
  simp only [Addr.add]
  split
  · next h => subst h; rfl
  · rfl

set_option maxRecDepth 100000 in
theorem region_cells {H : Type} {enc : TypeId × Value → H} {w : World} {base : Nat} {held : Bool} {spare : Nat → Bool} {fuel : Nat} {cs : List Value} {x : DataW H × List MemPlace}
    (h : DataW.trod enc Tryz.prog w base spare held fuel 137 cs = some x) : ∃ g : Rg, cs = [.int .i64 g.1, .int .i64 g.2.1, .int .i64 g.2.2.1, .bool g.2.2.2.1, .bool g.2.2.2.2.1, .bool g.2.2.2.2.2] ∧ wfi g.1 ∧ wfi g.2.1 ∧ wfi g.2.2.1 := by
  obtain ⟨xs, n, _, _, hl, hlen, hf⟩ := DataW.trod_struct Tryz.underlying137 h
  have e6 : Tryz.prog.cellsOf 137 = 6 := by kernel_rfl
  rw [e6] at hl
  match xs, hlen, cs, hl with
  | [y0, y1, y2, y3, y4, y5], _, [c0, c1, c2, c3, c4, c5], _ =>
  have k0 := hf 0 _ rfl
  have k1 := hf 1 _ rfl
  have k2 := hf 2 _ rfl
  have k3 := hf 3 _ rfl
  have k4 := hf 4 _ rfl
  have k5 := hf 5 _ rfl
  have e3 : Tryz.prog.cellsOf 3 = 1 := by kernel_rfl
  have e4 : Tryz.prog.cellsOf 4 = 1 := by kernel_rfl
  simp [e3, e4] at k0 k1 k2 k3 k4 k5
  obtain ⟨a0, h0, _, wa⟩ := DataW.trod_int Tryz.underlying3 k0
  obtain ⟨a1, h1, _, wb⟩ := DataW.trod_int Tryz.underlying3 k1
  obtain ⟨a2, h2, _, wc⟩ := DataW.trod_int Tryz.underlying3 k2
  obtain ⟨a3, h3, _⟩ := DataW.trod_bool Tryz.underlying4 k3
  obtain ⟨a4, h4, _⟩ := DataW.trod_bool Tryz.underlying4 k4
  obtain ⟨a5, h5, _⟩ := DataW.trod_bool Tryz.underlying4 k5
  simp at h0 h1 h2 h3 h4 h5
  subst h0 h1 h2 h3 h4 h5
  exact ⟨(a0, a1, a2, a3, a4, a5), rfl, wf_i64 wa, wf_i64 wb, wf_i64 wc⟩

set_option maxRecDepth 100000 in
theorem open_regions {H : Type} {enc : TypeId × Value → H} {w : World} {base b0 : Nat} {held : Bool} {r : Reach} {v : Value} {d : DataW H} {p : List MemPlace}
    (hv : Value.okWide Tryz.prog w r b0 54 v) (h : DataW.Trod enc Tryz.prog w base (fun _ => true) held 54 v d p) :
    ∃ a n cap rs, v = .slice a n cap ∧ RS w a n cap rs := by
  obtain ⟨a0, len0, cap0, rfl⟩ := okWide_slice Tryz.underlying54 hv
  obtain ⟨fuel, hf⟩ := h
  have e6 : Tryz.prog.cellsOf 137 = 6 := by kernel_rfl
  rcases Deep.open_slice Tryz.underlying54 hf with ⟨hcs, _⟩ | ⟨a, len, cap, m, n, D, Pl, hcs, hb, hl, hm, hmm, hx, hd⟩
  · simp [Value.cells] at hcs
    obtain ⟨rfl, rfl, rfl⟩ := hcs
    exact ⟨none, 0, 0, [], rfl, rfl, Nat.zero_le _, by simp, fun h => absurd rfl h, Nat.le_refl _⟩
  · simp [Value.cells] at hcs
    obtain ⟨rfl, rfl, rfl⟩ := hcs
    simp at hmm
    rw [hmm] at hd
    rw [e6] at hd
    obtain ⟨G, hG⟩ := Deep.choose_lt (α := Rg) (p := fun i g => (∃ cs', w.cells? base (a.add (i * 6)) 6 = some cs' ∧ cs' = [Value.int .i64 g.1, .int .i64 g.2.1, .int .i64 g.2.2.1, .bool g.2.2.2.1, .bool g.2.2.2.2.1, .bool g.2.2.2.2.2]) ∧ wfi g.1 ∧ wfi g.2.1 ∧ wfi g.2.2.1) (n := len0) (fun i hi => by
      obtain ⟨cs', h1, h2⟩ := hd i (by omega)
      obtain ⟨g, hg, hw⟩ := region_cells h2
      exact ⟨g, ⟨cs', h1, hg⟩, hw⟩)
    refine ⟨some a, len0, cap0, (List.range len0).map G, rfl, by simp, by omega, ?_, ?_, hl⟩
    · intro g hg
      simp at hg
      obtain ⟨i, hi, rfl⟩ := hg
      exact (hG i hi).2
    · intro hn
      obtain ⟨b, off, spot⟩ := a
      have hspot : spot = none := by
        obtain ⟨⟨cs', h1, h2⟩, _⟩ := hG 0 (by omega)
        have := (World.cells?_some h1).2.2 0 (by omega)
        rw [h2] at this
        simpa [Addr.add] using World.cell?_spot this
      subst hspot
      refine ⟨b, off, rfl, fun i hi => ?_⟩
      obtain ⟨⟨cs', h1, h2⟩, _⟩ := hG i hi
      have hc := (World.cells?_some h1).2.2
      rw [h2] at hc
      have hgi : ((List.range len0).map G).getD i z6 = G i := by simp [List.getD_eq_getElem?_getD, hi]
      rw [hgi]
      simp only [add6] at hc
      exact ⟨hc 0 (by omega), hc 1 (by omega), hc 2 (by omega), hc 3 (by omega), hc 4 (by omega), hc 5 (by omega)⟩
end Go.Proofs.YtngdgogjlpjjpadGreat
