import Derived.Test.YtngdgogjlpjjpacMm6
import Derived.Deep.RegionHeld3
namespace Go.Proofs.Ytngdgogjlpjjpac
open Go.RowKit
set_option linter.unusedVariables false
set_option linter.unusedSimpArgs false
set_option maxRecDepth 100000

theorem own3_bs' {w : World} {base : Nat} {a1 a2 a3 : Option Addr} {m1 d1 m2 d2 m3 d3 : Nat} {y1 y2 y3 : List Int} (h : Own3 w base (.slice a1 m1 d1) (.slice a2 m2 d2) (.slice a3 m3 d3) y1 y2 y3) : BS w a1 m1 d1 y1 ∧ BS w a2 m2 d2 y2 ∧ BS w a3 m3 d3 y3 :=
  ⟨h.1.bs, h.2.1.bs, h.2.2.1.bs⟩
/-- reading what was written -/
theorem rd_wrm (n1 n2 n3 : Nat) (x1 x2 x3 : List Int) (p s v : Int) (h2 : x2.length = n2) (hf : wff n1 n2 n3 p s = 0) (hp : p ≠ 131072) :
    ∃ k, wrm n1 n2 n3 x1 x2 x3 p s v = (x1, put x2 k v s.toNat, x3, 0) ∧ ((s = 4 ∧ rd n1 n2 n3 x1 (put x2 k v s.toNat) p s = (v % 4294967296, 0)) ∨ (s = 2 ∧ rd n1 n2 n3 x1 (put x2 k v s.toNat) p s = (v % 65536, 0)) ∨ (s = 1 ∧ rd n1 n2 n3 x1 (put x2 k v s.toNat) p s = (v % 256, 0))) := by
  obtain ⟨hm, hs, ha, ⟨rfl, hn⟩ | ⟨hp', hi, hj⟩⟩ := wff_zero hf
  · exact absurd rfl hp
  · have hj' := hj
    simp [ins] at hj'
    obtain ⟨k, hk⟩ := Int.eq_ofNat_of_zero_le (show 0 ≤ p - 65536 by omega)
    refine ⟨k, ?_, ?_⟩
    · rw [wrm, if_pos ⟨hm, hs⟩, if_neg (by rw [ha]; simp), if_neg hp, if_neg (by rw [hi]; simp), if_pos hj, hk]
      rfl
    · have e : rd n1 n2 n3 x1 (put x2 k v s.toNat) p s = (low (((put x2 k v s.toNat).drop k).take s.toNat), 0) := by
        rw [rd, if_pos ⟨hm, hs⟩, if_neg (by rw [ha]; simp), if_neg hp, if_neg (by rw [hi]; simp), if_pos hj, hk]
        rfl
      rw [e]
      rcases wd_cases hs with rfl | rfl | rfl
      · left; exact ⟨rfl, by rw [show (4:Int).toNat = 4 from rfl, low_put4 x2 k v (by omega)]⟩
      · right; left; exact ⟨rfl, by rw [show (2:Int).toNat = 2 from rfl, low_put2 x2 k v (by omega)]⟩
      · right; right; exact ⟨rfl, by rw [show (1:Int).toNat = 1 from rfl, low_put1 x2 k v (by omega)]⟩

theorem wrm_f (n1 n2 n3 : Nat) (x1 x2 x3 : List Int) (p s v : Int) : (wrm n1 n2 n3 x1 x2 x3 p s v).2.2.2 = wff n1 n2 n3 p s := by
  by_cases h : wff n1 n2 n3 p s = 0
  · obtain ⟨hm, hs, ha, ⟨rfl, hn⟩ | ⟨hp', hi, hj⟩⟩ := wff_zero h
    · rw [h, wrm, if_pos ⟨hm, hs⟩, if_neg (by rw [ha]; simp), if_pos rfl, if_neg (by omega)]
    · rw [h, wrm, if_pos ⟨hm, hs⟩, if_neg (by rw [ha]; simp), if_neg hp', if_neg (by rw [hi]; simp), if_pos hj]
  · rw [wrm_fault n1 n2 n3 x1 x2 x3 p s v h]

set_option maxHeartbeats 4000000 in
theorem fnMemory_walk (a : Option Addr) (n c : Nat) (zs : List Int) (w : World) (h : BS w a n c zs) :
    Calls Try.prog 3 #[.slice a n c] w fun e w' => e = .returned (.bool true) ∧ Below w.heap.size w w' := by
  have hm := h.2.1
  unfold maxLen at hm
  by_cases hn : (1048576 : Int) < (n : Int)
  · go_enter Try.func3, Try.ntmps3
    go_wp2
    go_ret
    exact ⟨rfl, Below.refl _ _⟩
  · have hlen : (mmF (zs.take 1000) 0).length ≤ 20000 ∧ (mmR (zs.take 1000) 0).length ≤ 20000 ∧ (mmO (zs.take 1000) 0).length ≤ 20000 := by
      refine mm_len ?_
      have hr := h.2.2.1
      cases zs with
      | nil => simp
      | cons z zs => simpa using hr z (by simp)
    have HD := hide (fun w h => drawWrite_any a n c zs w h)
    obtain ⟨L1, L2, L3⟩ := hlen
    generalize mmF (zs.take 1000) 0 = Y1 at *
    generalize mmR (zs.take 1000) 0 = Y2 at *
    generalize mmO (zs.take 1000) 0 = Y3 at *
    have HL : Hid (Y1.length ≤ 20000 ∧ Y2.length ≤ 20000 ∧ Y3.length ≤ 20000) := ⟨L1, L2, L3⟩
    clear L1 L2 L3
    obtain ⟨n1, hn1⟩ : ∃ n1, n1 = Y1.length := ⟨_, rfl⟩
    obtain ⟨n2, hn2⟩ : ∃ n2, n2 = Y2.length := ⟨_, rfl⟩
    obtain ⟨n3, hn3⟩ : ∃ n3, n3 = Y3.length := ⟨_, rfl⟩
    have HN := hide (And.intro hn1 (And.intro hn2 hn3))
    unfold DwPost at HD
    rw [← hn1, ← hn2, ← hn3] at HD
    rw [← hn1, ← hn2, ← hn3] at HL
    clear hn1 hn2 hn3
    go_enter Try.func3, Try.ntmps3
    go_wp2_with fail
    refine (HD.out _ h).mono ?_
    rintro e w1 ⟨b1, d1, b2, d2, b3, d3, p, s, v, rfl, B1, B2, B3, hp, hs, hv, hB1⟩
    obtain ⟨⟨r1, r2, r3, f⟩, hR⟩ : ∃ R, R = wrm n1 n2 n3 Y1 Y2 Y3 p s v := ⟨_, rfl⟩
    have HR := hide hR
    clear hR
    have al1 : Below w1.heap.size w1 (w1.alloc (.cells #[.slice (some ⟨b1, 0, none⟩) n1 d1, .slice (some ⟨b2, 0, none⟩) n2 d2, .slice (some ⟨b3, 0, none⟩) n3 d3] 24)) := (Below.refl _ _).alloc (Nat.le_refl _) _
    have kA := Blk.new w1 #[.slice (some ⟨b1, 0, none⟩) n1 d1, .slice (some ⟨b2, 0, none⟩) n2 d2, .slice (some ⟨b3, 0, none⟩) n3 d3] 24
    have hBx := hB1.trans (al1.mono hB1.size)
    have A1 := B1.below al1
    have A2 := B2.below al1
    have A3 := B3.below al1
    clear B1 B2 B3 al1
    go_wp2_with fail
    have hc1 := sWrite_any b1 0 b2 0 b3 0 n1 d1 n2 d2 n3 d3 Y1 Y2 Y3 p s v _ A1 A2 A3 (by have := HL.out; omega) (by omega) (by omega)
    rw [← HR.out] at hc1
    refine hc1.mono ?_
    clear hc1
    rintro e w2 ⟨c1, m1, e1, c2, m2, e2, c3, m3, e3, rfl, O2, hb2⟩
    obtain ⟨M1, M2, M3⟩ := own3_bs' O2
    have kA := kA.below hb2
    have A1 := A1.below hb2
    have A2 := A2.below hb2
    have A3 := A3.below hb2
    have hBy := hBx.trans (hb2.mono hBx.size)
    clear hb2 hBx O2
    have al2 : Below w2.heap.size w2 (w2.alloc (.cells #[.slice c1 m1 e1, .slice c2 m2 e2, .slice c3 m3 e3] 24)) := (Below.refl _ _).alloc (Nat.le_refl _) _
    have kB := Blk.new w2 #[.slice c1 m1 e1, .slice c2 m2 e2, .slice c3 m3 e3] 24
    have kA := kA.below al2
    have A1 := A1.below al2
    have A2 := A2.below al2
    have A3 := A3.below al2
    have M1 := M1.below al2
    have M2 := M2.below al2
    have M3 := M3.below al2
    have hBy := hBy.trans (al2.mono hBy.size)
    clear al2
    go_wp2_with fail
    refine (HD.out _ (h.below hBy)).mono ?_
    rintro e w3 ⟨g1, u1, g2, u2, g3, u3, p', s', v', rfl, G1, G2, G3, _, _, _, hb3⟩
    have kA := kA.below hb3
    have kB := kB.below hb3
    have A1 := A1.below hb3
    have A2 := A2.below hb3
    have A3 := A3.below hb3
    have M1 := M1.below hb3
    have M2 := M2.below hb3
    have M3 := M3.below hb3
    have hBz := hBy.trans (hb3.mono hBy.size)
    clear hb3 hBy
    have al3 : Below w3.heap.size w3 (w3.alloc (.cells #[.slice (some ⟨g1, 0, none⟩) n1 u1, .slice (some ⟨g2, 0, none⟩) n2 u2, .slice (some ⟨g3, 0, none⟩) n3 u3] 24)) := (Below.refl _ _).alloc (Nat.le_refl _) _
    have kC := Blk.new w3 #[.slice (some ⟨g1, 0, none⟩) n1 u1, .slice (some ⟨g2, 0, none⟩) n2 u2, .slice (some ⟨g3, 0, none⟩) n3 u3] 24
    have kA := kA.below al3
    have kB := kB.below al3
    have A1 := A1.below al3
    have A2 := A2.below al3
    have A3 := A3.below al3
    have M1 := M1.below al3
    have M2 := M2.below al3
    have M3 := M3.below al3
    have G1 := G1.below al3
    have G2 := G2.below al3
    have G3 := G3.below al3
    have hBz := hBz.trans (al3.mono hBz.size)
    clear al3
    go_wp2_with fail
    have hc1 := iWrite_any g1 0 g2 0 g3 0 n1 u1 n2 u2 n3 u3 Y1 Y2 Y3 p s v _ G1 G2 G3 (by have := HL.out; omega) (by omega) (by omega)
    rw [← HR.out] at hc1
    refine hc1.mono ?_
    clear hc1
    rintro e w4 ⟨t1, q1, f1, t2, q2, f2, t3, q3, f3, rfl, O4, hb4⟩
    obtain ⟨N1, N2, N3⟩ := own3_bs' O4
    obtain rfl : m1 = q1 := M1.1.symm.trans N1.1
    obtain rfl : m2 = q2 := M2.1.symm.trans N2.1
    obtain rfl : m3 = q3 := M3.1.symm.trans N3.1
    simp only at M1 M2 M3 N1 N2 N3
    have kA := kA.below hb4
    have kB := kB.below hb4
    have kC := kC.below hb4
    have A1 := A1.below hb4
    have A2 := A2.below hb4
    have A3 := A3.below hb4
    have M1 := M1.below hb4
    have M2 := M2.below hb4
    have M3 := M3.below hb4
    have G1 := G1.below hb4
    have G2 := G2.below hb4
    have G3 := G3.below hb4
    have hB4 := hBz.trans (hb4.mono hBz.size)
    clear hb4 hBz O4
    have al4 : Below w4.heap.size w4 (w4.alloc (.cells #[.slice t1 m1 f1, .slice t2 m2 f2, .slice t3 m3 f3] 24)) := (Below.refl _ _).alloc (Nat.le_refl _) _
    have kD := Blk.new w4 #[.slice t1 m1 f1, .slice t2 m2 f2, .slice t3 m3 f3] 24
    have kA := kA.below al4
    have kB := kB.below al4
    have kC := kC.below al4
    have A1 := A1.below al4
    have A2 := A2.below al4
    have A3 := A3.below al4
    have M1 := M1.below al4
    have M2 := M2.below al4
    have M3 := M3.below al4
    have N1 := N1.below al4
    have N2 := N2.below al4
    have N3 := N3.below al4
    have G1 := G1.below al4
    have G2 := G2.below al4
    have G3 := G3.below al4
    have hB4 := hB4.trans (al4.mono hB4.size)
    clear al4
    have hff : (f != f) = false := by simp
    have hmm : (mok n1 n2 n3 != mok n1 n2 n3) = false := by simp
    have HI := hide (fun w => iMemOk_any (some ⟨b1, 0, none⟩) (some ⟨b2, 0, none⟩) (some ⟨b3, 0, none⟩) n1 d1 n2 d2 n3 d3 w)
    have HS := hide (fun w => sMemOk_any (some ⟨b1, 0, none⟩) (some ⟨b2, 0, none⟩) (some ⟨b3, 0, none⟩) n1 d1 n2 d2 n3 d3 w)
    generalize mok n1 n2 n3 = mk at *
    obtain ⟨x1, x2, x3, x4⟩ := kA.three
    obtain ⟨y1, y2, y3, y4⟩ := kB.three
    obtain ⟨z1, z2, z3, z4⟩ := kC.three
    obtain ⟨o1, o2, o3, o4⟩ := kD.three
    go_wp2
    go_region_held3 (fun w' => w'.cell? ⟨w1.heap.size, 0, none⟩ = some (.slice (some ⟨b1, 0, none⟩) n1 d1) ∧ w'.cell? ⟨w1.heap.size, 1, none⟩ = some (.slice (some ⟨b2, 0, none⟩) n2 d2) ∧ w'.cell? ⟨w1.heap.size, 2, none⟩ = some (.slice (some ⟨b3, 0, none⟩) n3 d3) ∧ w'.cell? ⟨w2.heap.size, 0, none⟩ = some (.slice c1 m1 e1) ∧ w'.cell? ⟨w2.heap.size, 1, none⟩ = some (.slice c2 m2 e2) ∧ w'.cell? ⟨w2.heap.size, 2, none⟩ = some (.slice c3 m3 e3) ∧ w'.cell? ⟨w3.heap.size, 0, none⟩ = some (.slice (some ⟨g1, 0, none⟩) n1 u1) ∧ w'.cell? ⟨w3.heap.size, 1, none⟩ = some (.slice (some ⟨g2, 0, none⟩) n2 u2) ∧ w'.cell? ⟨w3.heap.size, 2, none⟩ = some (.slice (some ⟨g3, 0, none⟩) n3 u3) ∧ w'.cell? ⟨w4.heap.size, 0, none⟩ = some (.slice t1 m1 f1) ∧ w'.cell? ⟨w4.heap.size, 1, none⟩ = some (.slice t2 m2 f2) ∧ w'.cell? ⟨w4.heap.size, 2, none⟩ = some (.slice t3 m3 f3)) (go_keep)
      (first
        | (go_at_call_of 11 (Value.slice t1 m1 f1); refine (sameMem_same t1 t2 t3 c1 c2 c3 m1 f1 m2 f2 m3 f3 e1 e2 e3 r1 r2 r3 _ (by exact N1) (by exact N2) (by exact N3) (by exact M1) (by exact M2) (by exact M3)).mono ?_; rintro e wa ⟨rfl, hba⟩; replace hba := undrew hba; obtain ⟨x1, x2, x3, x4⟩ := (kA.below hba).three; obtain ⟨y1, y2, y3, y4⟩ := (kB.below hba).three; obtain ⟨z1, z2, z3, z4⟩ := (kC.below hba).three; obtain ⟨o1, o2, o3, o4⟩ := (kD.below hba).three; skip)
        | (go_at_call_of 11 (Value.slice (some ⟨g1, 0, none⟩) n1 u1); refine (sameMem_same (some ⟨g1, 0, none⟩) (some ⟨g2, 0, none⟩) (some ⟨g3, 0, none⟩) (some ⟨b1, 0, none⟩) (some ⟨b2, 0, none⟩) (some ⟨b3, 0, none⟩) n1 u1 n2 u2 n3 u3 d1 d2 d3 Y1 Y2 Y3 _ (G1.below hba) (G2.below hba) (G3.below hba) (A1.below hba) (A2.below hba) (A3.below hba)).mono ?_; rintro e wb ⟨rfl, hbb⟩; replace hbb := hba.trans (hbb.mono hba.size); obtain ⟨x1, x2, x3, x4⟩ := (kA.below hbb).three; obtain ⟨y1, y2, y3, y4⟩ := (kB.below hbb).three; obtain ⟨z1, z2, z3, z4⟩ := (kC.below hbb).three; obtain ⟨o1, o2, o3, o4⟩ := (kD.below hbb).three; skip)
        | (go_at_call 12; refine (HI.out _).mono ?_; rintro e wc ⟨rfl, hbc⟩; replace hbc := hbb.trans (hbc.mono hbb.size); obtain ⟨x1, x2, x3, x4⟩ := (kA.below hbc).three; obtain ⟨y1, y2, y3, y4⟩ := (kB.below hbc).three; obtain ⟨z1, z2, z3, z4⟩ := (kC.below hbc).three; obtain ⟨o1, o2, o3, o4⟩ := (kD.below hbc).three; skip)
        | (go_at_call 13; refine (HS.out _).mono ?_; rintro e wd ⟨rfl, hbd⟩; replace hbd := hbc.trans (hbd.mono hbc.size); obtain ⟨x1, x2, x3, x4⟩ := (kA.below hbd).three; obtain ⟨y1, y2, y3, y4⟩ := (kB.below hbd).three; obtain ⟨z1, z2, z3, z4⟩ := (kC.below hbd).three; obtain ⟨o1, o2, o3, o4⟩ := (kD.below hbd).three; skip))
    have kA := kA.below hbd
    have kC := kC.below hbd
    have kD := kD.below hbd
    have A1 := A1.below hbd
    have A2 := A2.below hbd
    have A3 := A3.below hbd
    have G1 := G1.below hbd
    have G2 := G2.below hbd
    have G3 := G3.below hbd
    have N1 := N1.below hbd
    have N2 := N2.below hbd
    have N3 := N3.below hbd
    have hB5 := hB4.trans (hbd.mono hB4.size)
    clear hbd hbc hbb hba hB4 kB M1 M2 M3 x1 x2 x3 x4 y1 y2 y3 y4 z1 z2 z3 z4 o1 o2 o3 o4 HI HS hmm
    obtain ⟨x1, x2, x3, x4⟩ := kA.three
    obtain ⟨z1, z2, z3, z4⟩ := kC.three
    obtain ⟨o1, o2, o3, o4⟩ := kD.three
    have PK := hide (And.intro kA (And.intro kC (And.intro kD (And.intro A1 (And.intro A2 (And.intro A3 (And.intro G1 (And.intro G2 (And.intro G3 (And.intro N1 (And.intro N2 (And.intro N3 hB5))))))))))))
    have hwf := wrm_f n1 n2 n3 Y1 Y2 Y3 p s v
    rw [← HR.out] at hwf
    have hwf' : f = wff n1 n2 n3 p s := hwf
    clear hwf
    by_cases hf : f = 0
    · by_cases hpp : p = 131072
      · have HW := hide hwf'
        clear hwf'
        subst hf
        obtain ⟨kA, kC, kD, A1, A2, A3, G1, G2, G3, N1, N2, N3, hB5⟩ := PK.out
        have hpp' : (p == 131072) = true := by simpa using hpp
        clear hpp
        go_wp2_with fail
        refine (sRead_any (some ⟨b1, 0, none⟩) (some ⟨b2, 0, none⟩) (some ⟨b3, 0, none⟩) n1 d1 n2 d2 n3 d3 Y1 Y2 Y3 p s _ A1 A2 (by omega)).mono ?_
        rintro e w6 ⟨rfl, hb6⟩
        have kA := kA.below hb6
        have kC := kC.below hb6
        have kD := kD.below hb6
        have A1 := A1.below hb6
        have A2 := A2.below hb6
        have A3 := A3.below hb6
        have G1 := G1.below hb6
        have G2 := G2.below hb6
        have G3 := G3.below hb6
        have N1 := N1.below hb6
        have N2 := N2.below hb6
        have N3 := N3.below hb6
        have hB6 := hB5.trans (hb6.mono hB5.size)
        clear hb6 hB5 x1 x2 x3 x4 z1 z2 z3 z4 o1 o2 o3 o4
        obtain ⟨x1, x2, x3, x4⟩ := kA.three
        obtain ⟨z1, z2, z3, z4⟩ := kC.three
        obtain ⟨o1, o2, o3, o4⟩ := kD.three
        go_wp2_with fail
        refine (iRead_any (some ⟨g1, 0, none⟩) (some ⟨g2, 0, none⟩) (some ⟨g3, 0, none⟩) n1 u1 n2 u2 n3 u3 Y1 Y2 Y3 p s _ G1 G2 (by omega)).mono ?_
        rintro e w7 ⟨rfl, hb7⟩
        have kA := kA.below hb7
        have kD := kD.below hb7
        have A1 := A1.below hb7
        have A2 := A2.below hb7
        have A3 := A3.below hb7
        have N1 := N1.below hb7
        have N2 := N2.below hb7
        have N3 := N3.below hb7
        have hB7 := hB6.trans (hb7.mono hB6.size)
        have hrr : ((rd n1 n2 n3 Y1 Y2 p s).2 != (rd n1 n2 n3 Y1 Y2 p s).2) = false := by simp
        generalize rd n1 n2 n3 Y1 Y2 p s = ρ at *
        clear hb7 hB6 x1 x2 x3 x4 z1 z2 z3 z4 o1 o2 o3 o4
        obtain ⟨x1, x2, x3, x4⟩ := kA.three
        obtain ⟨o1, o2, o3, o4⟩ := kD.three
        go_wp2
        go_ret
        exact ⟨rfl, hB7⟩
      · obtain ⟨k, hk, hcase⟩ := rd_wrm n1 n2 n3 Y1 Y2 Y3 p s v HN.out.2.1.symm (by rw [← hwf']; exact hf) hpp
        rw [← HR.out] at hk
        injection hk with hk1 hk
        injection hk with hk2 hk
        injection hk with hk3 hk4
        subst hk1 hk3
        have hm1 : m1 = n1 := N1.1.symm.trans HN.out.1.symm
        have hm3 : m3 = n3 := N3.1.symm.trans HN.out.2.2.symm
        have hm2 : m2 = n2 := by rw [← N2.1, hk2, put_len]; exact HN.out.2.1.symm
        subst hm1 hm2 hm3 hf
        have hpp' : (p == 131072) = false := by simpa using hpp
        obtain ⟨kA, kC, kD, A1, A2, A3, G1, G2, G3, N1, N2, N3, hB5⟩ := PK.out
        rw [hk2] at N2
        have HK := hide hcase
        clear hwf' hcase hpp hk2 HR
        go_wp2_with fail
        refine (sRead_any (some ⟨b1, 0, none⟩) (some ⟨b2, 0, none⟩) (some ⟨b3, 0, none⟩) m1 d1 m2 d2 m3 d3 r1 Y2 r3 p s _ A1 A2 (by omega)).mono ?_
        rintro e w6 ⟨rfl, hb6⟩
        have kA := kA.below hb6
        have kC := kC.below hb6
        have kD := kD.below hb6
        have A1 := A1.below hb6
        have A2 := A2.below hb6
        have A3 := A3.below hb6
        have G1 := G1.below hb6
        have G2 := G2.below hb6
        have G3 := G3.below hb6
        have N1 := N1.below hb6
        have N2 := N2.below hb6
        have N3 := N3.below hb6
        have hB6 := hB5.trans (hb6.mono hB5.size)
        clear hb6 hB5 x1 x2 x3 x4 z1 z2 z3 z4 o1 o2 o3 o4
        obtain ⟨x1, x2, x3, x4⟩ := kA.three
        obtain ⟨z1, z2, z3, z4⟩ := kC.three
        obtain ⟨o1, o2, o3, o4⟩ := kD.three
        go_wp2_with fail
        refine (iRead_any (some ⟨g1, 0, none⟩) (some ⟨g2, 0, none⟩) (some ⟨g3, 0, none⟩) m1 u1 m2 u2 m3 u3 r1 Y2 r3 p s _ G1 G2 (by omega)).mono ?_
        rintro e w7 ⟨rfl, hb7⟩
        have kA := kA.below hb7
        have kD := kD.below hb7
        have A1 := A1.below hb7
        have A2 := A2.below hb7
        have A3 := A3.below hb7
        have N1 := N1.below hb7
        have N2 := N2.below hb7
        have N3 := N3.below hb7
        have hB7 := hB6.trans (hb7.mono hB6.size)
        have hrr : ((rd m1 m2 m3 r1 Y2 p s).2 != (rd m1 m2 m3 r1 Y2 p s).2) = false := by simp
        generalize rd m1 m2 m3 r1 Y2 p s = ρ at *
        clear hb7 hB6 x1 x2 x3 x4 z1 z2 z3 z4 o1 o2 o3 o4
        obtain ⟨x1, x2, x3, x4⟩ := kA.three
        obtain ⟨o1, o2, o3, o4⟩ := kD.three
        have hrd := iRead_any t1 t2 t3 m1 f1 m2 f2 m3 f3 r1 (put Y2 k v s.toNat) r3 p s w7 N1 N2 (by omega)
        rcases HK.out with ⟨rfl, hv'⟩ | ⟨rfl, hv'⟩ | ⟨rfl, hv'⟩
        · rw [hv'] at hrd
          have HRD := hide hrd
          clear hrd hv' HK
          go_wp2_with fail
          refine HRD.out.mono ?_
          rintro e w8 ⟨rfl, hb8⟩
          have HLB := hide (fun w => lowBytes_4 v w (by omega))
          have hvv : ∀ q : Int, (q == q) = true := by intro q; simp
          go_wp2_with fail
          refine (HLB.out _).mono ?_
          rintro e w9 ⟨rfl, rfl⟩
          go_wp2
          go_ret
          exact ⟨ret_bool (by simp), hB7.trans (hb8.mono hB7.size)⟩
        · rw [hv'] at hrd
          have HRD := hide hrd
          clear hrd hv' HK
          go_wp2_with fail
          refine HRD.out.mono ?_
          rintro e w8 ⟨rfl, hb8⟩
          have HLB := hide (fun w => lowBytes_2 v w (by omega))
          have hvv : ∀ q : Int, (q == q) = true := by intro q; simp
          go_wp2_with fail
          refine (HLB.out _).mono ?_
          rintro e w9 ⟨rfl, rfl⟩
          go_wp2
          go_ret
          exact ⟨ret_bool (by simp), hB7.trans (hb8.mono hB7.size)⟩
        · rw [hv'] at hrd
          have HRD := hide hrd
          clear hrd hv' HK
          go_wp2_with fail
          refine HRD.out.mono ?_
          rintro e w8 ⟨rfl, hb8⟩
          have HLB := hide (fun w => lowBytes_1 v w (by omega))
          have hvv : ∀ q : Int, (q == q) = true := by intro q; simp
          go_wp2_with fail
          refine (HLB.out _).mono ?_
          rintro e w9 ⟨rfl, rfl⟩
          go_wp2
          go_ret
          exact ⟨ret_bool (by simp), hB7.trans (hb8.mono hB7.size)⟩
    · have e0 := wrm_fault n1 n2 n3 Y1 Y2 Y3 p s v (by rw [← hwf']; exact hf)
      rw [← HR.out] at e0
      injection e0 with hk1 e0
      injection e0 with hk2 e0
      injection e0 with hk3 _
      subst hk1 hk2 hk3
      have hm1 : m1 = n1 := N1.1.symm.trans HN.out.1.symm
      have hm2 : m2 = n2 := N2.1.symm.trans HN.out.2.1.symm
      have hm3 : m3 = n3 := N3.1.symm.trans HN.out.2.2.symm
      subst hm1 hm2 hm3
      obtain ⟨kA, kC, kD, A1, A2, A3, G1, G2, G3, N1, N2, N3, hB5⟩ := PK.out
      have hf1 : (f != 0) = true := by simpa using hf
      have hf2 : (f == 0) = false := by simpa using hf
      clear hwf' hf HR
      go_wp2_with fail
      refine (sRead_any (some ⟨b1, 0, none⟩) (some ⟨b2, 0, none⟩) (some ⟨b3, 0, none⟩) m1 d1 m2 d2 m3 d3 r1 r2 r3 p s _ A1 A2 (by omega)).mono ?_
      rintro e w6 ⟨rfl, hb6⟩
      have kA := kA.below hb6
      have kC := kC.below hb6
      have kD := kD.below hb6
      have A1 := A1.below hb6
      have A2 := A2.below hb6
      have A3 := A3.below hb6
      have G1 := G1.below hb6
      have G2 := G2.below hb6
      have G3 := G3.below hb6
      have N1 := N1.below hb6
      have N2 := N2.below hb6
      have N3 := N3.below hb6
      have hB6 := hB5.trans (hb6.mono hB5.size)
      clear hb6 hB5 x1 x2 x3 x4 z1 z2 z3 z4 o1 o2 o3 o4
      obtain ⟨x1, x2, x3, x4⟩ := kA.three
      obtain ⟨z1, z2, z3, z4⟩ := kC.three
      obtain ⟨o1, o2, o3, o4⟩ := kD.three
      go_wp2_with fail
      refine (iRead_any (some ⟨g1, 0, none⟩) (some ⟨g2, 0, none⟩) (some ⟨g3, 0, none⟩) m1 u1 m2 u2 m3 u3 r1 r2 r3 p s _ G1 G2 (by omega)).mono ?_
      rintro e w7 ⟨rfl, hb7⟩
      have kA := kA.below hb7
      have kD := kD.below hb7
      have A1 := A1.below hb7
      have A2 := A2.below hb7
      have A3 := A3.below hb7
      have N1 := N1.below hb7
      have N2 := N2.below hb7
      have N3 := N3.below hb7
      have hB7 := hB6.trans (hb7.mono hB6.size)
      have hrr : ((rd m1 m2 m3 r1 r2 p s).2 != (rd m1 m2 m3 r1 r2 p s).2) = false := by simp
      generalize rd m1 m2 m3 r1 r2 p s = ρ at *
      clear hb7 hB6 x1 x2 x3 x4 z1 z2 z3 z4 o1 o2 o3 o4
      obtain ⟨x1, x2, x3, x4⟩ := kA.three
      obtain ⟨o1, o2, o3, o4⟩ := kD.three
      go_wp2_with fail
      refine (sameMem_same t1 t2 t3 (some ⟨b1, 0, none⟩) (some ⟨b2, 0, none⟩) (some ⟨b3, 0, none⟩) m1 f1 m2 f2 m3 f3 d1 d2 d3 r1 r2 r3 _ N1 N2 N3 A1 A2 A3).mono ?_
      rintro e w8 ⟨rfl, hb8⟩
      go_wp2
      go_ret
      exact ⟨rfl, hB7.trans (hb8.mono hB7.size)⟩
end Go.Proofs.Ytngdgogjlpjjpac
