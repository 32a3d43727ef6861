import Derived.Test.YtaillnegkfagfacGreatJ22
namespace Go.Proofs.YtaillnegkfagfacGreat
open Go.RowKit
set_option linter.unusedVariables false
set_option linter.unusedSimpArgs false
set_option maxRecDepth 100000

theorem newsI {W : World} {g : Nat} {z : Int} (h : Blk W g #[.int .i64 z] 3) : ∀ j u, [Value.int .i64 z][j]? = some u → W.cell? ((⟨g, 0, none⟩ : Addr).add j) = some u := by
  intro j u hj
  match j with
  | 0 =>
    have e : (Addr.add ⟨g, 0, none⟩ 0) = ⟨g, 0, none⟩ := rfl
    rw [e, h.cell]
    simpa using hj
  | j + 1 => simp at hj
theorem oi_addr2 {w : World} {base : Nat} {v : Value} {zs : List Int} (h : OI w base v zs) (hn : zs.length ≠ 0) : ∃ g d, v = .slice (some ⟨g, 0, none⟩) zs.length d := by
  obtain ⟨hl, ⟨h0', h1⟩ | ⟨g, cap', cur, hv, _⟩⟩ := h.1
  · exact absurd h1 hn
  · exact ⟨g, cap', hv⟩
theorem wr62 (x : Int) (h0 : 0 ≤ x) (h1 : x ≤ 4611686018427387903) : IntKind.i64.wrap x = x := wraps62 x (by omega) (by omega)

set_option maxHeartbeats 4000000 in
theorem l3DrawCore_any (r : Nat) (a : Option Addr) (n c : Nat) (zs : List Int) (k0 : Nat) (w : World) (h : Rdr w r a n c zs k0) (hcode : n ≠ 0 → ∀ b off, a = some ⟨b, off, none⟩ → b < w.heap.size) :
    Calls Tryz.prog 10 #[.pointer (some ⟨r, 0, none⟩)] w (DcPost w r a n c zs (k0 + 1 + 8) (dcP (zs.getD k0 0)) (dcR (zs.getD k0 0) (regL zs (k0 + 1) 8))) := by
  obtain ⟨i0, hi, hz0, hz1, hz2⟩ := info_parts infoI
  have hrw := h.blk.lt
  have T0 : Turn (fun j => j = r) w (w.alloc (.cells #[.int .i64 0, .slice none 0 0] 25)) := turn_alloc w _
  have kr0 := Blk.new w #[.int .i64 0, .slice none 0 0] 25
  have h0 := rdr_below h ((Below.refl w.heap.size w).alloc (Nat.le_refl _) (.cells #[.int .i64 0, .slice none 0 0] 25))
  obtain ⟨K, E1, z0, z0'⟩ := draw_is h.bs k0
  rw [E1.out]
  clear h
  obtain ⟨PP, hPP⟩ : ∃ P, P = dcP K := ⟨_, rfl⟩
  obtain ⟨RR, hRR⟩ : ∃ R, R = dcR K (regL zs (k0 + 1) 8) := ⟨_, rfl⟩
  rw [← hPP, ← hRR]
  have HPP := hide hPP
  have HRR := hide hRR
  clear hPP hRR
  go_enter Tryz.func10, Tryz.ntmps10
  go_wp2_with fail
  refine (next_is r a n c zs k0 K _ h0 E1).mono ?_
  rintro e w1 ⟨rfl, h1, t1⟩
  have kr1 := turn_blk t1 kr0 (by omega)
  have T1 := T0.trans t1
  have hz1' := kr1.lt
  clear t1 kr0 T0 h0
  have M0 : Ks w ((w1.alloc (.cells #[] 3)).alloc (.cells #[.int .i64 (K % 4 * 4), .slice (some ⟨w1.heap.size, 0, none⟩) 0 0] 25)) r a n c zs (k0 + 1) (w1.heap.size + 1) (K % 4 * 4) (.slice (some ⟨w1.heap.size, 0, none⟩) 0 0) [] := by
    have x1 := (Blk.new w1 #[] 3).alloc (.cells #[.int .i64 (K % 4 * 4), .slice (some ⟨w1.heap.size, 0, none⟩) 0 0] 25)
    have x4 := Blk.new (w1.alloc (.cells #[] 3)) #[.int .i64 (K % 4 * 4), .slice (some ⟨w1.heap.size, 0, none⟩) 0 0] 25
    simp only [World.size_alloc] at x4
    exact ⟨(kr1.alloc _).alloc _, x4, oi_none _ _ _ (by omega) x1, rdr_alloc (rdr_alloc h1 _) _, turn_more (turn_more T1 _) _, by omega, hrw, hcode⟩
  have HM := hide M0
  clear M0 T1 kr1 h1
  go_wp2
  go_loopw [5] (fun i wr => ∃ (j : Nat) (v : Value), j ≤ 8 ∧ i = .int .i64 j ∧ Ks w wr r a n c zs (k0 + 1 + j) (w1.heap.size + 1) (K % 4 * 4) v (regL zs (k0 + 1) j)) (fun i _ => 8 - (intOf i).toNat)
  case atStart => exact ⟨0, _, Nat.zero_le _, rfl, HM.out⟩
  case round =>
    obtain ⟨j, v, hj, rfl, M⟩ := hrel
    clear HM
    by_cases hlt : j < 8
    · have hlt' : (j : Int) < 8 := by omega
      obtain ⟨y, E2, y0, y0'⟩ := draw_is M.rd.bs (k0 + 1 + j)
      go_wp2_with fail
      refine (next_is r a n c zs (k0 + 1 + j) y _ M.rd E2).mono ?_
      rintro e wa ⟨rfl, hra, ta⟩
      have MA := M.next hra ta
      clear M hra ta
      obtain ⟨q1, q2, q3⟩ := MA.box.two
      have hl1 : (regL zs (k0 + 1) j).length = j := regL_len _ _ _
      have HMA := hide MA
      have hsa := MA.turn.size
      have hGa := MA.box.lt
      clear MA
      have ey : IntKind.i64.wrap (y.tdiv 32) = y / 32 := by rw [Int.tdiv_eq_ediv_of_nonneg y0, wr62 (y / 32) (by omega) (by omega)]
      have hd : y / 32 = 0 ∨ y / 32 = 1 ∨ y / 32 = 2 ∨ y / 32 = 3 ∨ y / 32 = 4 ∨ y / 32 = 5 ∨ y / 32 = 6 ∨ y / 32 = 7 := by omega
      have fin : ∀ (W W3 : World) (g cap : Nat) (z : Int), Below wa.heap.size wa W → z = regF y → W3.ownsRow (w.heap.size + 1) 3 1 (.slice (some ⟨g, 0, none⟩) ((regL zs (k0 + 1) j).length + 1) cap) ((regL zs (k0 + 1) j).length + 1) ((regL zs (k0 + 1) j).map (Value.int .i64) ++ [Value.int .i64 z]) → W.grownBy W3 v.ownBlock → (v.ownBlock = some g ∨ g = W.heap.size) → wfi z →
          Ks w (W3.setCell ⟨w1.heap.size + 1, 1, none⟩ (.slice (some ⟨g, 0, none⟩) (j + 1) cap)) r a n c zs (k0 + 1 + (j + 1)) (w1.heap.size + 1) (K % 4 * 4) (.slice (some ⟨g, 0, none⟩) (j + 1) cap) (regL zs (k0 + 1) (j + 1)) := fun W W3 g cap z hb hz ho hg hat hw => by
        have := (HMA.out.below hb).grow z hw g cap _ ho hg hat rfl
        rw [hl1, hz, ← E2.out, regL_step] at this
        exact this
      have hnb : ∀ z O, Blk ((wa.alloc O).alloc (.cells #[.int .i64 z] 3)) (wa.heap.size + 1) #[.int .i64 z] 3 := fun z O => by
        have := Blk.new (wa.alloc O) #[.int .i64 z] 3
        simpa only [World.size_alloc] using this
      have FIN := hide fin
      clear fin
      go_wp2
      rcases hd with hd | hd | hd | hd | hd | hd | hd | hd
      · have ez : ((y) : Int) = y := rfl
        have er : ((y) : Int) = regF y := by unfold regF; rw [if_pos hd]
        have EZ := hide (show ((y) : Int) = regF y from ez.trans er)
        have EW := hide (show wfi (y) from by have := ez; unfold wfi; omega)
        rw [hd] at ey
        clear ez er hd
        have c21 := (((HMA.out.more (.cells #[.int .i64 y, .int .i64 (IntKind.i64.wrap (65536 + y.tmod 32)), .int .i64 65536, .int .i64 (IntKind.i64.wrap (4294967295 - y)), .int .i64 131072, .int .i64 (IntKind.i64.wrap (y * 16777215)), .int .i64 (y.tmod 32), .int .i64 0] 3)).more (.cells #[.int .i64 (y)] 3)).box.two).2.1
        go_region_law (first
          | (refine step_append_lies _ rfl _ _ 23 rfl (w.heap.size + 1) 3 i0 (.int .i64 0) 1 8 Tryz.underlying23 hi hz0 hz1 hz2 rfl (by decide) v (regL zs (k0 + 1) j).length ((regL zs (k0 + 1) j).map (Value.int .i64)) rfl (by first | exact (((HMA.out.more _).more _).drew).o.1 | exact ((HMA.out.more _).more _).o.1) ⟨wa.heap.size + 1, 0, none⟩ 1 1 [.int .i64 (y)] rfl rfl (newsI (by first | exact (hnb _ _).below (Below.refl _ _).drew | exact hnb _ _)) (by intro u hu; simp at hu; subst hu; rfl) (by decide) (by unfold maxLen; omega) (by omega) (by simp; omega) (wa.heap.size + 1 + 1) (by simp) ?_; intro g cap w3 hown3 hgr3 hat3 hlt3; obtain ⟨c1, c2, c3⟩ := (grown_blk hgr3 (by first | exact (((HMA.out.more _).more _).drew).box | exact ((HMA.out.more _).more _).box) (fun e => HMA.out.far e.symm)).two)
          | (rw [ey]))
        all_goals
          have HX := hide (FIN.out _ w3 g cap _ (by first | exact (((Below.refl _ _).alloc (Nat.le_refl _) _).alloc (by simp) _).drew | exact ((Below.refl _ _).alloc (Nat.le_refl _) _).alloc (by simp) _) EZ.out hown3 hgr3 (by rcases hat3 with e | e; exact Or.inl e; exact Or.inr (by rw [e]; simp)) EW.out)
          rw [hl1] at *
          clear c21 FIN hown3 hgr3 hat3 hlt3 c1 c2 c3 q1 q2 q3
          go_wp2
          go_roundw
          case rel => exact ⟨j + 1, _, by omega, by go_num, HX.out⟩
          case measure => simp [intOf]; omega
      · have ez : ((IntKind.i64.wrap (65536 + y.tmod 32)) : Int) = 65536 + y % 32 := by rw [Int.tmod_eq_emod_of_nonneg y0, wr62 _ (by omega) (by omega)]
        have er : ((65536 + y % 32) : Int) = regF y := by unfold regF; rw [if_neg (by omega), if_pos hd]
        have EZ := hide (show ((IntKind.i64.wrap (65536 + y.tmod 32)) : Int) = regF y from ez.trans er)
        have EW := hide (show wfi (IntKind.i64.wrap (65536 + y.tmod 32)) from by have := ez; unfold wfi; omega)
        rw [hd] at ey
        clear ez er hd
        have c21 := (((HMA.out.more (.cells #[.int .i64 y, .int .i64 (IntKind.i64.wrap (65536 + y.tmod 32)), .int .i64 65536, .int .i64 (IntKind.i64.wrap (4294967295 - y)), .int .i64 131072, .int .i64 (IntKind.i64.wrap (y * 16777215)), .int .i64 (y.tmod 32), .int .i64 0] 3)).more (.cells #[.int .i64 (IntKind.i64.wrap (65536 + y.tmod 32))] 3)).box.two).2.1
        go_region_law (first
          | (refine step_append_lies _ rfl _ _ 23 rfl (w.heap.size + 1) 3 i0 (.int .i64 0) 1 8 Tryz.underlying23 hi hz0 hz1 hz2 rfl (by decide) v (regL zs (k0 + 1) j).length ((regL zs (k0 + 1) j).map (Value.int .i64)) rfl (by first | exact (((HMA.out.more _).more _).drew).o.1 | exact ((HMA.out.more _).more _).o.1) ⟨wa.heap.size + 1, 0, none⟩ 1 1 [.int .i64 (IntKind.i64.wrap (65536 + y.tmod 32))] rfl rfl (newsI (by first | exact (hnb _ _).below (Below.refl _ _).drew | exact hnb _ _)) (by intro u hu; simp at hu; subst hu; rfl) (by decide) (by unfold maxLen; omega) (by omega) (by simp; omega) (wa.heap.size + 1 + 1) (by simp) ?_; intro g cap w3 hown3 hgr3 hat3 hlt3; obtain ⟨c1, c2, c3⟩ := (grown_blk hgr3 (by first | exact (((HMA.out.more _).more _).drew).box | exact ((HMA.out.more _).more _).box) (fun e => HMA.out.far e.symm)).two)
          | (rw [ey]))
        all_goals
          have HX := hide (FIN.out _ w3 g cap _ (by first | exact (((Below.refl _ _).alloc (Nat.le_refl _) _).alloc (by simp) _).drew | exact ((Below.refl _ _).alloc (Nat.le_refl _) _).alloc (by simp) _) EZ.out hown3 hgr3 (by rcases hat3 with e | e; exact Or.inl e; exact Or.inr (by rw [e]; simp)) EW.out)
          rw [hl1] at *
          clear c21 FIN hown3 hgr3 hat3 hlt3 c1 c2 c3 q1 q2 q3
          go_wp2
          go_roundw
          case rel => exact ⟨j + 1, _, by omega, by go_num, HX.out⟩
          case measure => simp [intOf]; omega
      · have ez : ((65536) : Int) = 65536 := rfl
        have er : ((65536) : Int) = regF y := by unfold regF; rw [if_neg (by omega), if_neg (by omega), if_pos hd]
        have EZ := hide (show ((65536) : Int) = regF y from ez.trans er)
        have EW := hide (show wfi (65536) from by have := ez; unfold wfi; omega)
        rw [hd] at ey
        clear ez er hd
        have c21 := (((HMA.out.more (.cells #[.int .i64 y, .int .i64 (IntKind.i64.wrap (65536 + y.tmod 32)), .int .i64 65536, .int .i64 (IntKind.i64.wrap (4294967295 - y)), .int .i64 131072, .int .i64 (IntKind.i64.wrap (y * 16777215)), .int .i64 (y.tmod 32), .int .i64 0] 3)).more (.cells #[.int .i64 (65536)] 3)).box.two).2.1
        go_region_law (first
          | (refine step_append_lies _ rfl _ _ 23 rfl (w.heap.size + 1) 3 i0 (.int .i64 0) 1 8 Tryz.underlying23 hi hz0 hz1 hz2 rfl (by decide) v (regL zs (k0 + 1) j).length ((regL zs (k0 + 1) j).map (Value.int .i64)) rfl (by first | exact (((HMA.out.more _).more _).drew).o.1 | exact ((HMA.out.more _).more _).o.1) ⟨wa.heap.size + 1, 0, none⟩ 1 1 [.int .i64 (65536)] rfl rfl (newsI (by first | exact (hnb _ _).below (Below.refl _ _).drew | exact hnb _ _)) (by intro u hu; simp at hu; subst hu; rfl) (by decide) (by unfold maxLen; omega) (by omega) (by simp; omega) (wa.heap.size + 1 + 1) (by simp) ?_; intro g cap w3 hown3 hgr3 hat3 hlt3; obtain ⟨c1, c2, c3⟩ := (grown_blk hgr3 (by first | exact (((HMA.out.more _).more _).drew).box | exact ((HMA.out.more _).more _).box) (fun e => HMA.out.far e.symm)).two)
          | (rw [ey]))
        all_goals
          have HX := hide (FIN.out _ w3 g cap _ (by first | exact (((Below.refl _ _).alloc (Nat.le_refl _) _).alloc (by simp) _).drew | exact ((Below.refl _ _).alloc (Nat.le_refl _) _).alloc (by simp) _) EZ.out hown3 hgr3 (by rcases hat3 with e | e; exact Or.inl e; exact Or.inr (by rw [e]; simp)) EW.out)
          rw [hl1] at *
          clear c21 FIN hown3 hgr3 hat3 hlt3 c1 c2 c3 q1 q2 q3
          go_wp2
          go_roundw
          case rel => exact ⟨j + 1, _, by omega, by go_num, HX.out⟩
          case measure => simp [intOf]; omega
      · have ez : ((IntKind.i64.wrap (4294967295 - y)) : Int) = 4294967295 - y := by rw [wr62 _ (by omega) (by omega)]
        have er : ((4294967295 - y) : Int) = regF y := by unfold regF; rw [if_neg (by omega), if_neg (by omega), if_neg (by omega), if_pos hd]
        have EZ := hide (show ((IntKind.i64.wrap (4294967295 - y)) : Int) = regF y from ez.trans er)
        have EW := hide (show wfi (IntKind.i64.wrap (4294967295 - y)) from by have := ez; unfold wfi; omega)
        rw [hd] at ey
        clear ez er hd
        have c21 := (((HMA.out.more (.cells #[.int .i64 y, .int .i64 (IntKind.i64.wrap (65536 + y.tmod 32)), .int .i64 65536, .int .i64 (IntKind.i64.wrap (4294967295 - y)), .int .i64 131072, .int .i64 (IntKind.i64.wrap (y * 16777215)), .int .i64 (y.tmod 32), .int .i64 0] 3)).more (.cells #[.int .i64 (IntKind.i64.wrap (4294967295 - y))] 3)).box.two).2.1
        go_region_law (first
          | (refine step_append_lies _ rfl _ _ 23 rfl (w.heap.size + 1) 3 i0 (.int .i64 0) 1 8 Tryz.underlying23 hi hz0 hz1 hz2 rfl (by decide) v (regL zs (k0 + 1) j).length ((regL zs (k0 + 1) j).map (Value.int .i64)) rfl (by first | exact (((HMA.out.more _).more _).drew).o.1 | exact ((HMA.out.more _).more _).o.1) ⟨wa.heap.size + 1, 0, none⟩ 1 1 [.int .i64 (IntKind.i64.wrap (4294967295 - y))] rfl rfl (newsI (by first | exact (hnb _ _).below (Below.refl _ _).drew | exact hnb _ _)) (by intro u hu; simp at hu; subst hu; rfl) (by decide) (by unfold maxLen; omega) (by omega) (by simp; omega) (wa.heap.size + 1 + 1) (by simp) ?_; intro g cap w3 hown3 hgr3 hat3 hlt3; obtain ⟨c1, c2, c3⟩ := (grown_blk hgr3 (by first | exact (((HMA.out.more _).more _).drew).box | exact ((HMA.out.more _).more _).box) (fun e => HMA.out.far e.symm)).two)
          | (rw [ey]))
        all_goals
          have HX := hide (FIN.out _ w3 g cap _ (by first | exact (((Below.refl _ _).alloc (Nat.le_refl _) _).alloc (by simp) _).drew | exact ((Below.refl _ _).alloc (Nat.le_refl _) _).alloc (by simp) _) EZ.out hown3 hgr3 (by rcases hat3 with e | e; exact Or.inl e; exact Or.inr (by rw [e]; simp)) EW.out)
          rw [hl1] at *
          clear c21 FIN hown3 hgr3 hat3 hlt3 c1 c2 c3 q1 q2 q3
          go_wp2
          go_roundw
          case rel => exact ⟨j + 1, _, by omega, by go_num, HX.out⟩
          case measure => simp [intOf]; omega
      · have ez : ((131072) : Int) = 131072 := rfl
        have er : ((131072) : Int) = regF y := by unfold regF; rw [if_neg (by omega), if_neg (by omega), if_neg (by omega), if_neg (by omega), if_pos hd]
        have EZ := hide (show ((131072) : Int) = regF y from ez.trans er)
        have EW := hide (show wfi (131072) from by have := ez; unfold wfi; omega)
        rw [hd] at ey
        clear ez er hd
        have c21 := (((HMA.out.more (.cells #[.int .i64 y, .int .i64 (IntKind.i64.wrap (65536 + y.tmod 32)), .int .i64 65536, .int .i64 (IntKind.i64.wrap (4294967295 - y)), .int .i64 131072, .int .i64 (IntKind.i64.wrap (y * 16777215)), .int .i64 (y.tmod 32), .int .i64 0] 3)).more (.cells #[.int .i64 (131072)] 3)).box.two).2.1
        go_region_law (first
          | (refine step_append_lies _ rfl _ _ 23 rfl (w.heap.size + 1) 3 i0 (.int .i64 0) 1 8 Tryz.underlying23 hi hz0 hz1 hz2 rfl (by decide) v (regL zs (k0 + 1) j).length ((regL zs (k0 + 1) j).map (Value.int .i64)) rfl (by first | exact (((HMA.out.more _).more _).drew).o.1 | exact ((HMA.out.more _).more _).o.1) ⟨wa.heap.size + 1, 0, none⟩ 1 1 [.int .i64 (131072)] rfl rfl (newsI (by first | exact (hnb _ _).below (Below.refl _ _).drew | exact hnb _ _)) (by intro u hu; simp at hu; subst hu; rfl) (by decide) (by unfold maxLen; omega) (by omega) (by simp; omega) (wa.heap.size + 1 + 1) (by simp) ?_; intro g cap w3 hown3 hgr3 hat3 hlt3; obtain ⟨c1, c2, c3⟩ := (grown_blk hgr3 (by first | exact (((HMA.out.more _).more _).drew).box | exact ((HMA.out.more _).more _).box) (fun e => HMA.out.far e.symm)).two)
          | (rw [ey]))
        all_goals
          have HX := hide (FIN.out _ w3 g cap _ (by first | exact (((Below.refl _ _).alloc (Nat.le_refl _) _).alloc (by simp) _).drew | exact ((Below.refl _ _).alloc (Nat.le_refl _) _).alloc (by simp) _) EZ.out hown3 hgr3 (by rcases hat3 with e | e; exact Or.inl e; exact Or.inr (by rw [e]; simp)) EW.out)
          rw [hl1] at *
          clear c21 FIN hown3 hgr3 hat3 hlt3 c1 c2 c3 q1 q2 q3
          go_wp2
          go_roundw
          case rel => exact ⟨j + 1, _, by omega, by go_num, HX.out⟩
          case measure => simp [intOf]; omega
      · have ez : ((IntKind.i64.wrap (y * 16777215)) : Int) = y * 16777215 := by rw [wr62 _ (by omega) (by omega)]
        have er : ((y * 16777215) : Int) = regF y := by unfold regF; rw [if_neg (by omega), if_neg (by omega), if_neg (by omega), if_neg (by omega), if_neg (by omega), if_pos hd]
        have EZ := hide (show ((IntKind.i64.wrap (y * 16777215)) : Int) = regF y from ez.trans er)
        have EW := hide (show wfi (IntKind.i64.wrap (y * 16777215)) from by have := ez; unfold wfi; omega)
        rw [hd] at ey
        clear ez er hd
        have c21 := (((HMA.out.more (.cells #[.int .i64 y, .int .i64 (IntKind.i64.wrap (65536 + y.tmod 32)), .int .i64 65536, .int .i64 (IntKind.i64.wrap (4294967295 - y)), .int .i64 131072, .int .i64 (IntKind.i64.wrap (y * 16777215)), .int .i64 (y.tmod 32), .int .i64 0] 3)).more (.cells #[.int .i64 (IntKind.i64.wrap (y * 16777215))] 3)).box.two).2.1
        go_region_law (first
          | (refine step_append_lies _ rfl _ _ 23 rfl (w.heap.size + 1) 3 i0 (.int .i64 0) 1 8 Tryz.underlying23 hi hz0 hz1 hz2 rfl (by decide) v (regL zs (k0 + 1) j).length ((regL zs (k0 + 1) j).map (Value.int .i64)) rfl (by first | exact (((HMA.out.more _).more _).drew).o.1 | exact ((HMA.out.more _).more _).o.1) ⟨wa.heap.size + 1, 0, none⟩ 1 1 [.int .i64 (IntKind.i64.wrap (y * 16777215))] rfl rfl (newsI (by first | exact (hnb _ _).below (Below.refl _ _).drew | exact hnb _ _)) (by intro u hu; simp at hu; subst hu; rfl) (by decide) (by unfold maxLen; omega) (by omega) (by simp; omega) (wa.heap.size + 1 + 1) (by simp) ?_; intro g cap w3 hown3 hgr3 hat3 hlt3; obtain ⟨c1, c2, c3⟩ := (grown_blk hgr3 (by first | exact (((HMA.out.more _).more _).drew).box | exact ((HMA.out.more _).more _).box) (fun e => HMA.out.far e.symm)).two)
          | (rw [ey]))
        all_goals
          have HX := hide (FIN.out _ w3 g cap _ (by first | exact (((Below.refl _ _).alloc (Nat.le_refl _) _).alloc (by simp) _).drew | exact ((Below.refl _ _).alloc (Nat.le_refl _) _).alloc (by simp) _) EZ.out hown3 hgr3 (by rcases hat3 with e | e; exact Or.inl e; exact Or.inr (by rw [e]; simp)) EW.out)
          rw [hl1] at *
          clear c21 FIN hown3 hgr3 hat3 hlt3 c1 c2 c3 q1 q2 q3
          go_wp2
          go_roundw
          case rel => exact ⟨j + 1, _, by omega, by go_num, HX.out⟩
          case measure => simp [intOf]; omega
      · have ez : ((y.tmod 32) : Int) = y % 32 := Int.tmod_eq_emod_of_nonneg y0
        have er : ((y % 32) : Int) = regF y := by unfold regF; rw [if_neg (by omega), if_neg (by omega), if_neg (by omega), if_neg (by omega), if_neg (by omega), if_neg (by omega), if_pos hd]
        have EZ := hide (show ((y.tmod 32) : Int) = regF y from ez.trans er)
        have EW := hide (show wfi (y.tmod 32) from by have := ez; unfold wfi; omega)
        rw [hd] at ey
        clear ez er hd
        have c21 := (((HMA.out.more (.cells #[.int .i64 y, .int .i64 (IntKind.i64.wrap (65536 + y.tmod 32)), .int .i64 65536, .int .i64 (IntKind.i64.wrap (4294967295 - y)), .int .i64 131072, .int .i64 (IntKind.i64.wrap (y * 16777215)), .int .i64 (y.tmod 32), .int .i64 0] 3)).more (.cells #[.int .i64 (y.tmod 32)] 3)).box.two).2.1
        go_region_law (first
          | (refine step_append_lies _ rfl _ _ 23 rfl (w.heap.size + 1) 3 i0 (.int .i64 0) 1 8 Tryz.underlying23 hi hz0 hz1 hz2 rfl (by decide) v (regL zs (k0 + 1) j).length ((regL zs (k0 + 1) j).map (Value.int .i64)) rfl (by first | exact (((HMA.out.more _).more _).drew).o.1 | exact ((HMA.out.more _).more _).o.1) ⟨wa.heap.size + 1, 0, none⟩ 1 1 [.int .i64 (y.tmod 32)] rfl rfl (newsI (by first | exact (hnb _ _).below (Below.refl _ _).drew | exact hnb _ _)) (by intro u hu; simp at hu; subst hu; rfl) (by decide) (by unfold maxLen; omega) (by omega) (by simp; omega) (wa.heap.size + 1 + 1) (by simp) ?_; intro g cap w3 hown3 hgr3 hat3 hlt3; obtain ⟨c1, c2, c3⟩ := (grown_blk hgr3 (by first | exact (((HMA.out.more _).more _).drew).box | exact ((HMA.out.more _).more _).box) (fun e => HMA.out.far e.symm)).two)
          | (rw [ey]))
        all_goals
          have HX := hide (FIN.out _ w3 g cap _ (by first | exact (((Below.refl _ _).alloc (Nat.le_refl _) _).alloc (by simp) _).drew | exact ((Below.refl _ _).alloc (Nat.le_refl _) _).alloc (by simp) _) EZ.out hown3 hgr3 (by rcases hat3 with e | e; exact Or.inl e; exact Or.inr (by rw [e]; simp)) EW.out)
          rw [hl1] at *
          clear c21 FIN hown3 hgr3 hat3 hlt3 c1 c2 c3 q1 q2 q3
          go_wp2
          go_roundw
          case rel => exact ⟨j + 1, _, by omega, by go_num, HX.out⟩
          case measure => simp [intOf]; omega
      · have ez : ((0) : Int) = 0 := rfl
        have er : ((0) : Int) = regF y := by unfold regF; rw [if_neg (by omega), if_neg (by omega), if_neg (by omega), if_neg (by omega), if_neg (by omega), if_neg (by omega), if_neg (by omega)]
        have EZ := hide (show ((0) : Int) = regF y from ez.trans er)
        have EW := hide (show wfi (0) from by have := ez; unfold wfi; omega)
        rw [hd] at ey
        clear ez er hd
        have c21 := (((HMA.out.more (.cells #[.int .i64 y, .int .i64 (IntKind.i64.wrap (65536 + y.tmod 32)), .int .i64 65536, .int .i64 (IntKind.i64.wrap (4294967295 - y)), .int .i64 131072, .int .i64 (IntKind.i64.wrap (y * 16777215)), .int .i64 (y.tmod 32), .int .i64 0] 3)).more (.cells #[.int .i64 (0)] 3)).box.two).2.1
        go_region_law (first
          | (refine step_append_lies _ rfl _ _ 23 rfl (w.heap.size + 1) 3 i0 (.int .i64 0) 1 8 Tryz.underlying23 hi hz0 hz1 hz2 rfl (by decide) v (regL zs (k0 + 1) j).length ((regL zs (k0 + 1) j).map (Value.int .i64)) rfl (by first | exact (((HMA.out.more _).more _).drew).o.1 | exact ((HMA.out.more _).more _).o.1) ⟨wa.heap.size + 1, 0, none⟩ 1 1 [.int .i64 (0)] rfl rfl (newsI (by first | exact (hnb _ _).below (Below.refl _ _).drew | exact hnb _ _)) (by intro u hu; simp at hu; subst hu; rfl) (by decide) (by unfold maxLen; omega) (by omega) (by simp; omega) (wa.heap.size + 1 + 1) (by simp) ?_; intro g cap w3 hown3 hgr3 hat3 hlt3; obtain ⟨c1, c2, c3⟩ := (grown_blk hgr3 (by first | exact (((HMA.out.more _).more _).drew).box | exact ((HMA.out.more _).more _).box) (fun e => HMA.out.far e.symm)).two)
          | (rw [ey]))
        all_goals
          have HX := hide (FIN.out _ w3 g cap _ (by first | exact (((Below.refl _ _).alloc (Nat.le_refl _) _).alloc (by simp) _).drew | exact ((Below.refl _ _).alloc (Nat.le_refl _) _).alloc (by simp) _) EZ.out hown3 hgr3 (by rcases hat3 with e | e; exact Or.inl e; exact Or.inr (by rw [e]; simp)) EW.out)
          rw [hl1] at *
          clear c21 FIN hown3 hgr3 hat3 hlt3 c1 c2 c3 q1 q2 q3
          go_wp2
          go_roundw
          case rel => exact ⟨j + 1, _, by omega, by go_num, HX.out⟩
          case measure => simp [intOf]; omega
    · -- behind the loop
      obtain rfl : j = 8 := by omega
      clear hlt hj
      obtain ⟨g, d, rfl⟩ := oi_addr2 M.o (by rw [regL_len]; omega)
      rw [regL_len] at M
      generalize regL zs (k0 + 1) 8 = L at *
      have f := M.far
      have hgG : g ≠ w1.heap.size + 1 := fun e => f (by rw [← e]; rfl)
      have hGg := hgG.symm
      have hlg := (M.o.lt g rfl).1
      have hgr : g ≠ w.heap.size := by omega
      have hrg := hgr.symm
      have hbg := M.big
      have hGr : w1.heap.size + 1 ≠ w.heap.size := by omega
      have hrG := hGr.symm
      clear f hlg
      obtain ⟨p1, p2, p3⟩ := M.box.two
      obtain ⟨r1, r2, r3⟩ := M.res.two
      have x7 := M.o.is.at 7 (by omega)
      have x6 := M.o.is.at 6 (by omega)
      have x0 := M.o.is.at 0 (by omega)
      simp only [Nat.zero_add] at x7 x6 x0
      have hfz := (oi_room M.o).frozen
      have hcap := M.o.is.2.2.2.2
      have hcap' : ¬ (d : Int) < 7 := by omega
      have HM6 := hide ((M.reg 7 (by omega) 65536 (by unfold wfi; omega)).reg 6 (by omega) 65560 (by unfold wfi; omega))
      clear M
      by_cases h255 : K = 255
      · have e1 : PP = K % 4 * 4 := by rw [HPP.out]; unfold dcP; rw [if_neg (by omega)]
        have e2 : RR = ((L.set 7 65536).set 6 65560).set 0 4294967296 := by rw [HRR.out]; unfold dcR; rw [if_pos h255]
        have HE := hide (And.intro e1 e2)
        have HM0 := hide (HM6.out.reg 0 (by omega) 4294967296 (by unfold wfi; omega))
        have g1 : (K == 255) = true := by simpa using h255
        have g2 : (K == 254) = false := by simp; omega
        have g3 : (K % 32 == 21) = false := by simp; omega
        clear h255 e1 e2 HM6 HPP HRR
        go_wp2
        rw [HE.out.1, HE.out.2]
        (with_reducible refine HM0.out.done HM0.out.o.is _ Tryz.results10 _ ?_); rfl
      · have g1 : (K == 255) = false := by simpa using h255
        by_cases h254 : K = 254
        · have e1 : PP = K % 4 * 4 := by rw [HPP.out]; unfold dcP; rw [if_neg (by omega)]
          have e2 : RR = ((L.set 7 65536).set 6 65560).take 7 := by rw [HRR.out]; unfold dcR; rw [if_neg h255, if_pos h254]
          have HE := hide (And.intro e1 e2)
          have HM0 := hide (HM6.out.cut 7 (by omega))
          have g2 : (K == 254) = true := by simpa using h254
          have g3 : (K % 32 == 21) = false := by simp; omega
          clear h255 h254 e1 e2 HM6 HPP HRR
          go_wp2
          rw [HE.out.1, HE.out.2]
          (with_reducible refine HM0.out.done HM0.out.o.is _ Tryz.results10 _ ?_); rfl
        · have g2 : (K == 254) = false := by simpa using h254
          have e2 : RR = (L.set 7 65536).set 6 65560 := by rw [HRR.out]; unfold dcR; rw [if_neg h255, if_neg h254]
          by_cases h21 : K % 32 = 21
          · have e1 : PP = K % 4 * 4 + (K / 32 + 1) := by rw [HPP.out]; unfold dcP; rw [if_pos h21]
            have HE := hide (And.intro e1 e2)
            have HM0 := hide (HM6.out.pcs (K % 4 * 4 + (K / 32 + 1)))
            have g3 : (K % 32 == 21) = true := by simpa using h21
            clear h255 h254 h21 e1 e2 HM6 HPP HRR
            go_wp2
            rw [HE.out.1, HE.out.2]
            (with_reducible refine HM0.out.done HM0.out.o.is _ Tryz.results10 _ ?_); rfl
          · have e1 : PP = K % 4 * 4 := by rw [HPP.out]; unfold dcP; rw [if_neg h21]
            have HE := hide (And.intro e1 e2)
            have g3 : (K % 32 == 21) = false := by simpa using h21
            clear h255 h254 h21 e1 e2 HPP HRR
            go_wp2
            rw [HE.out.1, HE.out.2]
            (with_reducible refine HM6.out.done HM6.out.o.is _ Tryz.results10 _ ?_); rfl
end Go.Proofs.YtaillnegkfagfacGreat
