import Derived.Test.YtngdgogjlpjjpadGreatK27
namespace Go.Proofs.YtngdgogjlpjjpadGreat
open Go.RowKit
set_option linter.unusedVariables false
set_option linter.unusedSimpArgs false
set_option maxRecDepth 100000

theorem list8 {rg : List Int} (h : rg.length = 8) : ∃ r0 r1 r2 r3 r4 r5 r6 r7, rg = [r0, r1, r2, r3, r4, r5, r6, r7] := by
  match rg, h with
  | [r0, r1, r2, r3, r4, r5, r6, r7], _ => exact ⟨r0, r1, r2, r3, r4, r5, r6, r7, rfl⟩
theorem RowI.oi {w : World} {base g : Nat} {zs : List Int} (h : RowI w g zs) (hb : base ≤ g) (hm : zs.length ≤ maxLen) (hz : ∀ z ∈ zs, wfi z) : OI w base (.slice (some ⟨g, 0, none⟩) zs.length zs.length) zs :=
  ⟨⟨by simp, .inr ⟨g, zs.length, (zs.map (Value.int .i64)).toArray, rfl, hb, h, Nat.le_refl _, hm, by simp, by simp [List.take_of_length_le]⟩⟩, hz⟩
theorem RowI.other {w : World} {g : Nat} {zs : List Int} (h : RowI w g zs) (a : Addr) (v : Value) (hg : g ≠ a.block) : RowI (w.setCell a v) g zs := Blk.other h a v hg

set_option maxHeartbeats 4000000 in
theorem pcore_any (g : Nat) (pc : Int) (rg : List Int) (s1 s2 s3 s4 : Value) (w : World) (h : Pr w g pc rg s1 s2 s3 s4) :
    Calls Tryz.prog 99 #[.pointer (some ⟨g, 0, none⟩)] w (CorePost w pc 8 rg) := by
  have hc := h.pc
  obtain ⟨p0, p1⟩ := h.pcw
  have hlt := h.blk.lt
  obtain ⟨r0, r1, r2, r3, r4, r5, r6, r7, rfl⟩ := list8 h.len
  have hmk : ∀ w : World, (Instr.makeSlice 29 (.int .i64 8) (.int .i64 8)).run Tryz.prog w = .ok (.slice (some ⟨w.heap.size, 0, none⟩) 8 8) (w.alloc (.cells #[.int .i64 0, .int .i64 0, .int .i64 0, .int .i64 0, .int .i64 0, .int .i64 0, .int .i64 0, .int .i64 0] 3)) := fun w => by kernel_rfl
  have hlt1 : g < w.heap.size + 1 := by omega
  have hlt2 : g < w.heap.size + 1 + 1 := by omega
  have hlt3 : g < w.heap.size + 1 + 1 + 1 := by omega
  have hne : g ≠ w.heap.size := by omega
  have hne1 : g ≠ w.heap.size + 1 := by omega
  have hne2 : g ≠ w.heap.size + 1 + 1 := by omega
  obtain ⟨u0, v0⟩ : 0 ≤ r0 ∧ r0 ≤ 4294967295 := h.rgw r0 (by simp)
  obtain ⟨u1, v1⟩ : 0 ≤ r1 ∧ r1 ≤ 4294967295 := h.rgw r1 (by simp)
  obtain ⟨u2, v2⟩ : 0 ≤ r2 ∧ r2 ≤ 4294967295 := h.rgw r2 (by simp)
  obtain ⟨u3, v3⟩ : 0 ≤ r3 ∧ r3 ≤ 4294967295 := h.rgw r3 (by simp)
  obtain ⟨u4, v4⟩ : 0 ≤ r4 ∧ r4 ≤ 4294967295 := h.rgw r4 (by simp)
  obtain ⟨u5, v5⟩ : 0 ≤ r5 ∧ r5 ≤ 4294967295 := h.rgw r5 (by simp)
  obtain ⟨u6, v6⟩ : 0 ≤ r6 ∧ r6 ≤ 4294967295 := h.rgw r6 (by simp)
  obtain ⟨u7, v7⟩ : 0 ≤ r7 ∧ r7 ≤ 4294967295 := h.rgw r7 (by simp)
  have i0 : ∀ w : World, (Instr.index 145 (.agg #[.int .u32 r0, .int .u32 r1, .int .u32 r2, .int .u32 r3, .int .u32 r4, .int .u32 r5, .int .u32 r6, .int .u32 r7]) (.int .i64 0)).run Tryz.prog w = .ok (.int .u32 r0) w := fun _ => by kernel_rfl
  have i1 : ∀ w : World, (Instr.index 145 (.agg #[.int .u32 r0, .int .u32 r1, .int .u32 r2, .int .u32 r3, .int .u32 r4, .int .u32 r5, .int .u32 r6, .int .u32 r7]) (.int .i64 1)).run Tryz.prog w = .ok (.int .u32 r1) w := fun _ => by kernel_rfl
  have i2 : ∀ w : World, (Instr.index 145 (.agg #[.int .u32 r0, .int .u32 r1, .int .u32 r2, .int .u32 r3, .int .u32 r4, .int .u32 r5, .int .u32 r6, .int .u32 r7]) (.int .i64 2)).run Tryz.prog w = .ok (.int .u32 r2) w := fun _ => by kernel_rfl
  have i3 : ∀ w : World, (Instr.index 145 (.agg #[.int .u32 r0, .int .u32 r1, .int .u32 r2, .int .u32 r3, .int .u32 r4, .int .u32 r5, .int .u32 r6, .int .u32 r7]) (.int .i64 3)).run Tryz.prog w = .ok (.int .u32 r3) w := fun _ => by kernel_rfl
  have i4 : ∀ w : World, (Instr.index 145 (.agg #[.int .u32 r0, .int .u32 r1, .int .u32 r2, .int .u32 r3, .int .u32 r4, .int .u32 r5, .int .u32 r6, .int .u32 r7]) (.int .i64 4)).run Tryz.prog w = .ok (.int .u32 r4) w := fun _ => by kernel_rfl
  have i5 : ∀ w : World, (Instr.index 145 (.agg #[.int .u32 r0, .int .u32 r1, .int .u32 r2, .int .u32 r3, .int .u32 r4, .int .u32 r5, .int .u32 r6, .int .u32 r7]) (.int .i64 5)).run Tryz.prog w = .ok (.int .u32 r5) w := fun _ => by kernel_rfl
  have i6 : ∀ w : World, (Instr.index 145 (.agg #[.int .u32 r0, .int .u32 r1, .int .u32 r2, .int .u32 r3, .int .u32 r4, .int .u32 r5, .int .u32 r6, .int .u32 r7]) (.int .i64 6)).run Tryz.prog w = .ok (.int .u32 r6) w := fun _ => by kernel_rfl
  have i7 : ∀ w : World, (Instr.index 145 (.agg #[.int .u32 r0, .int .u32 r1, .int .u32 r2, .int .u32 r3, .int .u32 r4, .int .u32 r5, .int .u32 r6, .int .u32 r7]) (.int .i64 7)).run Tryz.prog w = .ok (.int .u32 r7) w := fun _ => by kernel_rfl
  have HZ := hide (show ∀ z ∈ [r0, r1, r2, r3, r4, r5, r6, r7], wfi z from fun z hz => by have := h.rgw z hz; unfold wfi; omega)
  go_enter Tryz.func99, Tryz.ntmps99
  go_wp2
  go_region
  · obtain ⟨W, hW⟩ : ∃ W, W = (((w.alloc (.cells #[.int .i64 0, .slice none 0 0] 58)).alloc (.cells #[.int .i64 0, .int .i64 0, .int .i64 0, .int .i64 0, .int .i64 0, .int .i64 0, .int .i64 0, .int .i64 0] 3)).alloc (.cells #[.int .i64 pc, .slice (some ⟨w.heap.size + 1, 0, none⟩) 8 8] 58)).drew := ⟨_, rfl⟩
    have hB0 : Below w.heap.size w W := by rw [hW]; exact ((((Below.refl _ _).alloc (Nat.le_refl _) _).alloc (by simp) _).alloc (by simp; omega) _).drew
    have k0 := ((Blk.new w #[.int .i64 0, .slice none 0 0] 58).alloc (.cells #[.int .i64 0, .int .i64 0, .int .i64 0, .int .i64 0, .int .i64 0, .int .i64 0, .int .i64 0, .int .i64 0] 3)).alloc (.cells #[.int .i64 pc, .slice (some ⟨w.heap.size + 1, 0, none⟩) 8 8] 58)
    have k1 := (Blk.new (w.alloc (.cells #[.int .i64 0, .slice none 0 0] 58)) #[.int .i64 0, .int .i64 0, .int .i64 0, .int .i64 0, .int .i64 0, .int .i64 0, .int .i64 0, .int .i64 0] 3).alloc (.cells #[.int .i64 pc, .slice (some ⟨w.heap.size + 1, 0, none⟩) 8 8] 58)
    have k2 := Blk.new ((w.alloc (.cells #[.int .i64 0, .slice none 0 0] 58)).alloc (.cells #[.int .i64 0, .int .i64 0, .int .i64 0, .int .i64 0, .int .i64 0, .int .i64 0, .int .i64 0, .int .i64 0] 3)) #[.int .i64 pc, .slice (some ⟨w.heap.size + 1, 0, none⟩) 8 8] 58
    simp only [World.size_alloc] at k0 k1 k2
    have KZ : Blk W w.heap.size #[.int .i64 0, .slice none 0 0] 58 := by rw [hW]; exact k0
    have KC : Blk W (w.heap.size + 1 + 1) #[.int .i64 pc, .slice (some ⟨w.heap.size + 1, 0, none⟩) 8 8] 58 := by rw [hW]; exact k2
    have KR : RowI W (w.heap.size + 1) (mid [r0, r1, r2, r3, r4, r5, r6, r7] 0) := by rw [hW, mid_zero]; exact k1
    have PW := h.below hB0
    have x0 : W.cell? ⟨g, 1, none⟩ = some (.int .u32 r0) := PW.reg 0 (by omega)
    have x1 : W.cell? ⟨g, 2, none⟩ = some (.int .u32 r1) := PW.reg 1 (by omega)
    have x2 : W.cell? ⟨g, 3, none⟩ = some (.int .u32 r2) := PW.reg 2 (by omega)
    have x3 : W.cell? ⟨g, 4, none⟩ = some (.int .u32 r3) := PW.reg 3 (by omega)
    have x4 : W.cell? ⟨g, 5, none⟩ = some (.int .u32 r4) := PW.reg 4 (by omega)
    have x5 : W.cell? ⟨g, 6, none⟩ = some (.int .u32 r5) := PW.reg 5 (by omega)
    have x6 : W.cell? ⟨g, 7, none⟩ = some (.int .u32 r6) := PW.reg 6 (by omega)
    have x7 : W.cell? ⟨g, 8, none⟩ = some (.int .u32 r7) := PW.reg 7 (by omega)
    rw [← hW]
    clear hW k0 k1 k2 hc hmk hlt1 hlt2 hlt3 hne hne1 hne2 PW
    have H := hide h
    clear h
    go_wp2
    go_loopw [17] (fun i wr => ∃ k : Nat, k ≤ 8 ∧ i = .int .i64 k ∧ RowI wr (w.heap.size + 1) (mid [r0, r1, r2, r3, r4, r5, r6, r7] k) ∧ Blk wr (w.heap.size + 1 + 1) #[.int .i64 pc, .slice (some ⟨w.heap.size + 1, 0, none⟩) 8 8] 58 ∧ Blk wr w.heap.size #[.int .i64 0, .slice none 0 0] 58 ∧ Below w.heap.size w wr) (fun i _ => 8 - (intOf i).toNat)
    case atStart => exact ⟨0, Nat.zero_le _, rfl, KR, KC, KZ, hB0⟩
    case round =>
      obtain ⟨k, hk, rfl, hR, hC, hZ, hB⟩ := hrel
      clear KR KC KZ hB0 x0 x1 x2 x3 x4 x5 x6 x7
      obtain ⟨q1, q2, q3⟩ := hC.two'
      rcases (show k = 0 ∨ k = 1 ∨ k = 2 ∨ k = 3 ∨ k = 4 ∨ k = 5 ∨ k = 6 ∨ k = 7 ∨ k = 8 by omega) with rfl | rfl | rfl | rfl | rfl | rfl | rfl | rfl | rfl
      · have hgk := hR.cell 0 (by rw [mid_len]; simp)
        have hfk := hR.frozen 0
        have R' : RowI (wr.setCell ⟨w.heap.size + 1, 0, none⟩ (.int .i64 r0)) (w.heap.size + 1) (mid [r0, r1, r2, r3, r4, r5, r6, r7] 1) := by
          have := hR.set 0 ([r0, r1, r2, r3, r4, r5, r6, r7].getD 0 0)
          rw [mid_set [r0, r1, r2, r3, r4, r5, r6, r7] 0 (by simp)] at this
          exact this
        have HX := hide (And.intro R' (And.intro (hC.other ⟨w.heap.size + 1, 0, none⟩ (.int .i64 r0) (by dsimp only; omega)) (And.intro (hZ.other ⟨w.heap.size + 1, 0, none⟩ (.int .i64 r0) (by dsimp only; omega)) (hB.setCell (p := ⟨w.heap.size + 1, 0, none⟩) (by dsimp only; omega) (.int .i64 r0)))))
        generalize (mid [r0, r1, r2, r3, r4, r5, r6, r7] 0).getD 0 0 = y at *
        clear R' hR hC hZ hB
        rw [show ((0 : Nat) : Int) = 0 from rfl]
        go_wp2
        go_roundw
        case rel => exact ⟨1, by omega, by go_num, HX.out.1, HX.out.2.1, HX.out.2.2.1, HX.out.2.2.2⟩
        case measure => simp [intOf]
      · have hgk := hR.cell 1 (by rw [mid_len]; simp)
        have hfk := hR.frozen 1
        have R' : RowI (wr.setCell ⟨w.heap.size + 1, 1, none⟩ (.int .i64 r1)) (w.heap.size + 1) (mid [r0, r1, r2, r3, r4, r5, r6, r7] 2) := by
          have := hR.set 1 ([r0, r1, r2, r3, r4, r5, r6, r7].getD 1 0)
          rw [mid_set [r0, r1, r2, r3, r4, r5, r6, r7] 1 (by simp)] at this
          exact this
        have HX := hide (And.intro R' (And.intro (hC.other ⟨w.heap.size + 1, 1, none⟩ (.int .i64 r1) (by dsimp only; omega)) (And.intro (hZ.other ⟨w.heap.size + 1, 1, none⟩ (.int .i64 r1) (by dsimp only; omega)) (hB.setCell (p := ⟨w.heap.size + 1, 1, none⟩) (by dsimp only; omega) (.int .i64 r1)))))
        generalize (mid [r0, r1, r2, r3, r4, r5, r6, r7] 1).getD 1 0 = y at *
        clear R' hR hC hZ hB
        rw [show ((1 : Nat) : Int) = 1 from rfl]
        go_wp2
        go_roundw
        case rel => exact ⟨2, by omega, by go_num, HX.out.1, HX.out.2.1, HX.out.2.2.1, HX.out.2.2.2⟩
        case measure => simp [intOf]
      · have hgk := hR.cell 2 (by rw [mid_len]; simp)
        have hfk := hR.frozen 2
        have R' : RowI (wr.setCell ⟨w.heap.size + 1, 2, none⟩ (.int .i64 r2)) (w.heap.size + 1) (mid [r0, r1, r2, r3, r4, r5, r6, r7] 3) := by
          have := hR.set 2 ([r0, r1, r2, r3, r4, r5, r6, r7].getD 2 0)
          rw [mid_set [r0, r1, r2, r3, r4, r5, r6, r7] 2 (by simp)] at this
          exact this
        have HX := hide (And.intro R' (And.intro (hC.other ⟨w.heap.size + 1, 2, none⟩ (.int .i64 r2) (by dsimp only; omega)) (And.intro (hZ.other ⟨w.heap.size + 1, 2, none⟩ (.int .i64 r2) (by dsimp only; omega)) (hB.setCell (p := ⟨w.heap.size + 1, 2, none⟩) (by dsimp only; omega) (.int .i64 r2)))))
        generalize (mid [r0, r1, r2, r3, r4, r5, r6, r7] 2).getD 2 0 = y at *
        clear R' hR hC hZ hB
        rw [show ((2 : Nat) : Int) = 2 from rfl]
        go_wp2
        go_roundw
        case rel => exact ⟨3, by omega, by go_num, HX.out.1, HX.out.2.1, HX.out.2.2.1, HX.out.2.2.2⟩
        case measure => simp [intOf]
      · have hgk := hR.cell 3 (by rw [mid_len]; simp)
        have hfk := hR.frozen 3
        have R' : RowI (wr.setCell ⟨w.heap.size + 1, 3, none⟩ (.int .i64 r3)) (w.heap.size + 1) (mid [r0, r1, r2, r3, r4, r5, r6, r7] 4) := by
          have := hR.set 3 ([r0, r1, r2, r3, r4, r5, r6, r7].getD 3 0)
          rw [mid_set [r0, r1, r2, r3, r4, r5, r6, r7] 3 (by simp)] at this
          exact this
        have HX := hide (And.intro R' (And.intro (hC.other ⟨w.heap.size + 1, 3, none⟩ (.int .i64 r3) (by dsimp only; omega)) (And.intro (hZ.other ⟨w.heap.size + 1, 3, none⟩ (.int .i64 r3) (by dsimp only; omega)) (hB.setCell (p := ⟨w.heap.size + 1, 3, none⟩) (by dsimp only; omega) (.int .i64 r3)))))
        generalize (mid [r0, r1, r2, r3, r4, r5, r6, r7] 3).getD 3 0 = y at *
        clear R' hR hC hZ hB
        rw [show ((3 : Nat) : Int) = 3 from rfl]
        go_wp2
        go_roundw
        case rel => exact ⟨4, by omega, by go_num, HX.out.1, HX.out.2.1, HX.out.2.2.1, HX.out.2.2.2⟩
        case measure => simp [intOf]
      · have hgk := hR.cell 4 (by rw [mid_len]; simp)
        have hfk := hR.frozen 4
        have R' : RowI (wr.setCell ⟨w.heap.size + 1, 4, none⟩ (.int .i64 r4)) (w.heap.size + 1) (mid [r0, r1, r2, r3, r4, r5, r6, r7] 5) := by
          have := hR.set 4 ([r0, r1, r2, r3, r4, r5, r6, r7].getD 4 0)
          rw [mid_set [r0, r1, r2, r3, r4, r5, r6, r7] 4 (by simp)] at this
          exact this
        have HX := hide (And.intro R' (And.intro (hC.other ⟨w.heap.size + 1, 4, none⟩ (.int .i64 r4) (by dsimp only; omega)) (And.intro (hZ.other ⟨w.heap.size + 1, 4, none⟩ (.int .i64 r4) (by dsimp only; omega)) (hB.setCell (p := ⟨w.heap.size + 1, 4, none⟩) (by dsimp only; omega) (.int .i64 r4)))))
        generalize (mid [r0, r1, r2, r3, r4, r5, r6, r7] 4).getD 4 0 = y at *
        clear R' hR hC hZ hB
        rw [show ((4 : Nat) : Int) = 4 from rfl]
        go_wp2
        go_roundw
        case rel => exact ⟨5, by omega, by go_num, HX.out.1, HX.out.2.1, HX.out.2.2.1, HX.out.2.2.2⟩
        case measure => simp [intOf]
      · have hgk := hR.cell 5 (by rw [mid_len]; simp)
        have hfk := hR.frozen 5
        have R' : RowI (wr.setCell ⟨w.heap.size + 1, 5, none⟩ (.int .i64 r5)) (w.heap.size + 1) (mid [r0, r1, r2, r3, r4, r5, r6, r7] 6) := by
          have := hR.set 5 ([r0, r1, r2, r3, r4, r5, r6, r7].getD 5 0)
          rw [mid_set [r0, r1, r2, r3, r4, r5, r6, r7] 5 (by simp)] at this
          exact this
        have HX := hide (And.intro R' (And.intro (hC.other ⟨w.heap.size + 1, 5, none⟩ (.int .i64 r5) (by dsimp only; omega)) (And.intro (hZ.other ⟨w.heap.size + 1, 5, none⟩ (.int .i64 r5) (by dsimp only; omega)) (hB.setCell (p := ⟨w.heap.size + 1, 5, none⟩) (by dsimp only; omega) (.int .i64 r5)))))
        generalize (mid [r0, r1, r2, r3, r4, r5, r6, r7] 5).getD 5 0 = y at *
        clear R' hR hC hZ hB
        rw [show ((5 : Nat) : Int) = 5 from rfl]
        go_wp2
        go_roundw
        case rel => exact ⟨6, by omega, by go_num, HX.out.1, HX.out.2.1, HX.out.2.2.1, HX.out.2.2.2⟩
        case measure => simp [intOf]
      · have hgk := hR.cell 6 (by rw [mid_len]; simp)
        have hfk := hR.frozen 6
        have R' : RowI (wr.setCell ⟨w.heap.size + 1, 6, none⟩ (.int .i64 r6)) (w.heap.size + 1) (mid [r0, r1, r2, r3, r4, r5, r6, r7] 7) := by
          have := hR.set 6 ([r0, r1, r2, r3, r4, r5, r6, r7].getD 6 0)
          rw [mid_set [r0, r1, r2, r3, r4, r5, r6, r7] 6 (by simp)] at this
          exact this
        have HX := hide (And.intro R' (And.intro (hC.other ⟨w.heap.size + 1, 6, none⟩ (.int .i64 r6) (by dsimp only; omega)) (And.intro (hZ.other ⟨w.heap.size + 1, 6, none⟩ (.int .i64 r6) (by dsimp only; omega)) (hB.setCell (p := ⟨w.heap.size + 1, 6, none⟩) (by dsimp only; omega) (.int .i64 r6)))))
        generalize (mid [r0, r1, r2, r3, r4, r5, r6, r7] 6).getD 6 0 = y at *
        clear R' hR hC hZ hB
        rw [show ((6 : Nat) : Int) = 6 from rfl]
        go_wp2
        go_roundw
        case rel => exact ⟨7, by omega, by go_num, HX.out.1, HX.out.2.1, HX.out.2.2.1, HX.out.2.2.2⟩
        case measure => simp [intOf]
      · have hgk := hR.cell 7 (by rw [mid_len]; simp)
        have hfk := hR.frozen 7
        have R' : RowI (wr.setCell ⟨w.heap.size + 1, 7, none⟩ (.int .i64 r7)) (w.heap.size + 1) (mid [r0, r1, r2, r3, r4, r5, r6, r7] 8) := by
          have := hR.set 7 ([r0, r1, r2, r3, r4, r5, r6, r7].getD 7 0)
          rw [mid_set [r0, r1, r2, r3, r4, r5, r6, r7] 7 (by simp)] at this
          exact this
        have HX := hide (And.intro R' (And.intro (hC.other ⟨w.heap.size + 1, 7, none⟩ (.int .i64 r7) (by dsimp only; omega)) (And.intro (hZ.other ⟨w.heap.size + 1, 7, none⟩ (.int .i64 r7) (by dsimp only; omega)) (hB.setCell (p := ⟨w.heap.size + 1, 7, none⟩) (by dsimp only; omega) (.int .i64 r7)))))
        generalize (mid [r0, r1, r2, r3, r4, r5, r6, r7] 7).getD 7 0 = y at *
        clear R' hR hC hZ hB
        rw [show ((7 : Nat) : Int) = 7 from rfl]
        go_wp2
        go_roundw
        case rel => exact ⟨8, by omega, by go_num, HX.out.1, HX.out.2.1, HX.out.2.2.1, HX.out.2.2.2⟩
        case measure => simp [intOf]
      · obtain ⟨z1, z2, z3⟩ := hZ.two'
        have kz := (hZ.set 0 (.int .i64 pc)).set 1 (.slice (some ⟨w.heap.size + 1, 0, none⟩) 8 8)
        have kz' : Blk ((wr.setCell ⟨w.heap.size, 0, none⟩ (.int .i64 pc)).setCell ⟨w.heap.size, 1, none⟩ (.slice (some ⟨w.heap.size + 1, 0, none⟩) 8 8)) w.heap.size #[.int .i64 pc, .slice (some ⟨w.heap.size + 1, 0, none⟩) 8 8] 58 := by simpa using kz
        obtain ⟨y1, y2, y3⟩ := kz'.two'
        have hR8 : RowI wr (w.heap.size + 1) [r0, r1, r2, r3, r4, r5, r6, r7] := hR
        have HX := hide (And.intro ((((hR8.other ⟨w.heap.size, 0, none⟩ (.int .i64 pc) (by dsimp only; omega)).other ⟨w.heap.size, 1, none⟩ (.slice (some ⟨w.heap.size + 1, 0, none⟩) 8 8) (by dsimp only; omega)).oi (base := w.heap.size) (by omega) (by simp [maxLen]) HZ.out)) ((hB.setCell (p := ⟨w.heap.size, 0, none⟩) (by dsimp only; omega) (.int .i64 pc)).setCell (p := ⟨w.heap.size, 1, none⟩) (by dsimp only; omega) (.slice (some ⟨w.heap.size + 1, 0, none⟩) 8 8)))
        clear hR hR8 hC hZ hB kz kz'
        rw [show ((8 : Nat) : Int) = 8 from rfl]
        go_wp2
        exact bodyPost_ret (v := .agg #[.int .i64 pc, .slice (some ⟨w.heap.size + 1, 0, none⟩) 8 8]) (by simp [results, Tryz.results99, go_sem, y1, y2]) rfl ⟨_, _, rfl, HX.out.1, HX.out.2⟩
  · obtain ⟨W, hW⟩ : ∃ W, W = (((w.alloc (.cells #[.int .i64 0, .slice none 0 0] 58)).alloc (.cells #[.int .i64 pc, .slice (some ⟨w.heap.size + 1 + 1, 0, none⟩) 8 8] 58)).alloc (.cells #[.int .i64 0, .int .i64 0, .int .i64 0, .int .i64 0, .int .i64 0, .int .i64 0, .int .i64 0, .int .i64 0] 3)).drew := ⟨_, rfl⟩
    have hB0 : Below w.heap.size w W := by rw [hW]; exact ((((Below.refl _ _).alloc (Nat.le_refl _) _).alloc (by simp) _).alloc (by simp; omega) _).drew
    have k0 := ((Blk.new w #[.int .i64 0, .slice none 0 0] 58).alloc (.cells #[.int .i64 pc, .slice (some ⟨w.heap.size + 1 + 1, 0, none⟩) 8 8] 58)).alloc (.cells #[.int .i64 0, .int .i64 0, .int .i64 0, .int .i64 0, .int .i64 0, .int .i64 0, .int .i64 0, .int .i64 0] 3)
    have k1 := (Blk.new (w.alloc (.cells #[.int .i64 0, .slice none 0 0] 58)) #[.int .i64 pc, .slice (some ⟨w.heap.size + 1 + 1, 0, none⟩) 8 8] 58).alloc (.cells #[.int .i64 0, .int .i64 0, .int .i64 0, .int .i64 0, .int .i64 0, .int .i64 0, .int .i64 0, .int .i64 0] 3)
    have k2 := Blk.new ((w.alloc (.cells #[.int .i64 0, .slice none 0 0] 58)).alloc (.cells #[.int .i64 pc, .slice (some ⟨w.heap.size + 1 + 1, 0, none⟩) 8 8] 58)) #[.int .i64 0, .int .i64 0, .int .i64 0, .int .i64 0, .int .i64 0, .int .i64 0, .int .i64 0, .int .i64 0] 3
    simp only [World.size_alloc] at k0 k1 k2
    have KZ : Blk W w.heap.size #[.int .i64 0, .slice none 0 0] 58 := by rw [hW]; exact k0
    have KC : Blk W (w.heap.size + 1) #[.int .i64 pc, .slice (some ⟨w.heap.size + 1 + 1, 0, none⟩) 8 8] 58 := by rw [hW]; exact k1
    have KR : RowI W (w.heap.size + 1 + 1) (mid [r0, r1, r2, r3, r4, r5, r6, r7] 0) := by rw [hW, mid_zero]; exact k2
    have PW := h.below hB0
    have x0 : W.cell? ⟨g, 1, none⟩ = some (.int .u32 r0) := PW.reg 0 (by omega)
    have x1 : W.cell? ⟨g, 2, none⟩ = some (.int .u32 r1) := PW.reg 1 (by omega)
    have x2 : W.cell? ⟨g, 3, none⟩ = some (.int .u32 r2) := PW.reg 2 (by omega)
    have x3 : W.cell? ⟨g, 4, none⟩ = some (.int .u32 r3) := PW.reg 3 (by omega)
    have x4 : W.cell? ⟨g, 5, none⟩ = some (.int .u32 r4) := PW.reg 4 (by omega)
    have x5 : W.cell? ⟨g, 6, none⟩ = some (.int .u32 r5) := PW.reg 5 (by omega)
    have x6 : W.cell? ⟨g, 7, none⟩ = some (.int .u32 r6) := PW.reg 6 (by omega)
    have x7 : W.cell? ⟨g, 8, none⟩ = some (.int .u32 r7) := PW.reg 7 (by omega)
    rw [← hW]
    clear hW k0 k1 k2 hc hmk hlt1 hlt2 hlt3 hne hne1 hne2 PW
    have H := hide h
    clear h
    go_wp2
    go_loopw [17] (fun i wr => ∃ k : Nat, k ≤ 8 ∧ i = .int .i64 k ∧ RowI wr (w.heap.size + 1 + 1) (mid [r0, r1, r2, r3, r4, r5, r6, r7] k) ∧ Blk wr (w.heap.size + 1) #[.int .i64 pc, .slice (some ⟨w.heap.size + 1 + 1, 0, none⟩) 8 8] 58 ∧ Blk wr w.heap.size #[.int .i64 0, .slice none 0 0] 58 ∧ Below w.heap.size w wr) (fun i _ => 8 - (intOf i).toNat)
    case atStart => exact ⟨0, Nat.zero_le _, rfl, KR, KC, KZ, hB0⟩
    case round =>
      obtain ⟨k, hk, rfl, hR, hC, hZ, hB⟩ := hrel
      clear KR KC KZ hB0 x0 x1 x2 x3 x4 x5 x6 x7
      obtain ⟨q1, q2, q3⟩ := hC.two'
      rcases (show k = 0 ∨ k = 1 ∨ k = 2 ∨ k = 3 ∨ k = 4 ∨ k = 5 ∨ k = 6 ∨ k = 7 ∨ k = 8 by omega) with rfl | rfl | rfl | rfl | rfl | rfl | rfl | rfl | rfl
      · have hgk := hR.cell 0 (by rw [mid_len]; simp)
        have hfk := hR.frozen 0
        have R' : RowI (wr.setCell ⟨w.heap.size + 1 + 1, 0, none⟩ (.int .i64 r0)) (w.heap.size + 1 + 1) (mid [r0, r1, r2, r3, r4, r5, r6, r7] 1) := by
          have := hR.set 0 ([r0, r1, r2, r3, r4, r5, r6, r7].getD 0 0)
          rw [mid_set [r0, r1, r2, r3, r4, r5, r6, r7] 0 (by simp)] at this
          exact this
        have HX := hide (And.intro R' (And.intro (hC.other ⟨w.heap.size + 1 + 1, 0, none⟩ (.int .i64 r0) (by dsimp only; omega)) (And.intro (hZ.other ⟨w.heap.size + 1 + 1, 0, none⟩ (.int .i64 r0) (by dsimp only; omega)) (hB.setCell (p := ⟨w.heap.size + 1 + 1, 0, none⟩) (by dsimp only; omega) (.int .i64 r0)))))
        generalize (mid [r0, r1, r2, r3, r4, r5, r6, r7] 0).getD 0 0 = y at *
        clear R' hR hC hZ hB
        rw [show ((0 : Nat) : Int) = 0 from rfl]
        go_wp2
        go_roundw
        case rel => exact ⟨1, by omega, by go_num, HX.out.1, HX.out.2.1, HX.out.2.2.1, HX.out.2.2.2⟩
        case measure => simp [intOf]
      · have hgk := hR.cell 1 (by rw [mid_len]; simp)
        have hfk := hR.frozen 1
        have R' : RowI (wr.setCell ⟨w.heap.size + 1 + 1, 1, none⟩ (.int .i64 r1)) (w.heap.size + 1 + 1) (mid [r0, r1, r2, r3, r4, r5, r6, r7] 2) := by
          have := hR.set 1 ([r0, r1, r2, r3, r4, r5, r6, r7].getD 1 0)
          rw [mid_set [r0, r1, r2, r3, r4, r5, r6, r7] 1 (by simp)] at this
          exact this
        have HX := hide (And.intro R' (And.intro (hC.other ⟨w.heap.size + 1 + 1, 1, none⟩ (.int .i64 r1) (by dsimp only; omega)) (And.intro (hZ.other ⟨w.heap.size + 1 + 1, 1, none⟩ (.int .i64 r1) (by dsimp only; omega)) (hB.setCell (p := ⟨w.heap.size + 1 + 1, 1, none⟩) (by dsimp only; omega) (.int .i64 r1)))))
        generalize (mid [r0, r1, r2, r3, r4, r5, r6, r7] 1).getD 1 0 = y at *
        clear R' hR hC hZ hB
        rw [show ((1 : Nat) : Int) = 1 from rfl]
        go_wp2
        go_roundw
        case rel => exact ⟨2, by omega, by go_num, HX.out.1, HX.out.2.1, HX.out.2.2.1, HX.out.2.2.2⟩
        case measure => simp [intOf]
      · have hgk := hR.cell 2 (by rw [mid_len]; simp)
        have hfk := hR.frozen 2
        have R' : RowI (wr.setCell ⟨w.heap.size + 1 + 1, 2, none⟩ (.int .i64 r2)) (w.heap.size + 1 + 1) (mid [r0, r1, r2, r3, r4, r5, r6, r7] 3) := by
          have := hR.set 2 ([r0, r1, r2, r3, r4, r5, r6, r7].getD 2 0)
          rw [mid_set [r0, r1, r2, r3, r4, r5, r6, r7] 2 (by simp)] at this
          exact this
        have HX := hide (And.intro R' (And.intro (hC.other ⟨w.heap.size + 1 + 1, 2, none⟩ (.int .i64 r2) (by dsimp only; omega)) (And.intro (hZ.other ⟨w.heap.size + 1 + 1, 2, none⟩ (.int .i64 r2) (by dsimp only; omega)) (hB.setCell (p := ⟨w.heap.size + 1 + 1, 2, none⟩) (by dsimp only; omega) (.int .i64 r2)))))
        generalize (mid [r0, r1, r2, r3, r4, r5, r6, r7] 2).getD 2 0 = y at *
        clear R' hR hC hZ hB
        rw [show ((2 : Nat) : Int) = 2 from rfl]
        go_wp2
        go_roundw
        case rel => exact ⟨3, by omega, by go_num, HX.out.1, HX.out.2.1, HX.out.2.2.1, HX.out.2.2.2⟩
        case measure => simp [intOf]
      · have hgk := hR.cell 3 (by rw [mid_len]; simp)
        have hfk := hR.frozen 3
        have R' : RowI (wr.setCell ⟨w.heap.size + 1 + 1, 3, none⟩ (.int .i64 r3)) (w.heap.size + 1 + 1) (mid [r0, r1, r2, r3, r4, r5, r6, r7] 4) := by
          have := hR.set 3 ([r0, r1, r2, r3, r4, r5, r6, r7].getD 3 0)
          rw [mid_set [r0, r1, r2, r3, r4, r5, r6, r7] 3 (by simp)] at this
          exact this
        have HX := hide (And.intro R' (And.intro (hC.other ⟨w.heap.size + 1 + 1, 3, none⟩ (.int .i64 r3) (by dsimp only; omega)) (And.intro (hZ.other ⟨w.heap.size + 1 + 1, 3, none⟩ (.int .i64 r3) (by dsimp only; omega)) (hB.setCell (p := ⟨w.heap.size + 1 + 1, 3, none⟩) (by dsimp only; omega) (.int .i64 r3)))))
        generalize (mid [r0, r1, r2, r3, r4, r5, r6, r7] 3).getD 3 0 = y at *
        clear R' hR hC hZ hB
        rw [show ((3 : Nat) : Int) = 3 from rfl]
        go_wp2
        go_roundw
        case rel => exact ⟨4, by omega, by go_num, HX.out.1, HX.out.2.1, HX.out.2.2.1, HX.out.2.2.2⟩
        case measure => simp [intOf]
      · have hgk := hR.cell 4 (by rw [mid_len]; simp)
        have hfk := hR.frozen 4
        have R' : RowI (wr.setCell ⟨w.heap.size + 1 + 1, 4, none⟩ (.int .i64 r4)) (w.heap.size + 1 + 1) (mid [r0, r1, r2, r3, r4, r5, r6, r7] 5) := by
          have := hR.set 4 ([r0, r1, r2, r3, r4, r5, r6, r7].getD 4 0)
          rw [mid_set [r0, r1, r2, r3, r4, r5, r6, r7] 4 (by simp)] at this
          exact this
        have HX := hide (And.intro R' (And.intro (hC.other ⟨w.heap.size + 1 + 1, 4, none⟩ (.int .i64 r4) (by dsimp only; omega)) (And.intro (hZ.other ⟨w.heap.size + 1 + 1, 4, none⟩ (.int .i64 r4) (by dsimp only; omega)) (hB.setCell (p := ⟨w.heap.size + 1 + 1, 4, none⟩) (by dsimp only; omega) (.int .i64 r4)))))
        generalize (mid [r0, r1, r2, r3, r4, r5, r6, r7] 4).getD 4 0 = y at *
        clear R' hR hC hZ hB
        rw [show ((4 : Nat) : Int) = 4 from rfl]
        go_wp2
        go_roundw
        case rel => exact ⟨5, by omega, by go_num, HX.out.1, HX.out.2.1, HX.out.2.2.1, HX.out.2.2.2⟩
        case measure => simp [intOf]
      · have hgk := hR.cell 5 (by rw [mid_len]; simp)
        have hfk := hR.frozen 5
        have R' : RowI (wr.setCell ⟨w.heap.size + 1 + 1, 5, none⟩ (.int .i64 r5)) (w.heap.size + 1 + 1) (mid [r0, r1, r2, r3, r4, r5, r6, r7] 6) := by
          have := hR.set 5 ([r0, r1, r2, r3, r4, r5, r6, r7].getD 5 0)
          rw [mid_set [r0, r1, r2, r3, r4, r5, r6, r7] 5 (by simp)] at this
          exact this
        have HX := hide (And.intro R' (And.intro (hC.other ⟨w.heap.size + 1 + 1, 5, none⟩ (.int .i64 r5) (by dsimp only; omega)) (And.intro (hZ.other ⟨w.heap.size + 1 + 1, 5, none⟩ (.int .i64 r5) (by dsimp only; omega)) (hB.setCell (p := ⟨w.heap.size + 1 + 1, 5, none⟩) (by dsimp only; omega) (.int .i64 r5)))))
        generalize (mid [r0, r1, r2, r3, r4, r5, r6, r7] 5).getD 5 0 = y at *
        clear R' hR hC hZ hB
        rw [show ((5 : Nat) : Int) = 5 from rfl]
        go_wp2
        go_roundw
        case rel => exact ⟨6, by omega, by go_num, HX.out.1, HX.out.2.1, HX.out.2.2.1, HX.out.2.2.2⟩
        case measure => simp [intOf]
      · have hgk := hR.cell 6 (by rw [mid_len]; simp)
        have hfk := hR.frozen 6
        have R' : RowI (wr.setCell ⟨w.heap.size + 1 + 1, 6, none⟩ (.int .i64 r6)) (w.heap.size + 1 + 1) (mid [r0, r1, r2, r3, r4, r5, r6, r7] 7) := by
          have := hR.set 6 ([r0, r1, r2, r3, r4, r5, r6, r7].getD 6 0)
          rw [mid_set [r0, r1, r2, r3, r4, r5, r6, r7] 6 (by simp)] at this
          exact this
        have HX := hide (And.intro R' (And.intro (hC.other ⟨w.heap.size + 1 + 1, 6, none⟩ (.int .i64 r6) (by dsimp only; omega)) (And.intro (hZ.other ⟨w.heap.size + 1 + 1, 6, none⟩ (.int .i64 r6) (by dsimp only; omega)) (hB.setCell (p := ⟨w.heap.size + 1 + 1, 6, none⟩) (by dsimp only; omega) (.int .i64 r6)))))
        generalize (mid [r0, r1, r2, r3, r4, r5, r6, r7] 6).getD 6 0 = y at *
        clear R' hR hC hZ hB
        rw [show ((6 : Nat) : Int) = 6 from rfl]
        go_wp2
        go_roundw
        case rel => exact ⟨7, by omega, by go_num, HX.out.1, HX.out.2.1, HX.out.2.2.1, HX.out.2.2.2⟩
        case measure => simp [intOf]
      · have hgk := hR.cell 7 (by rw [mid_len]; simp)
        have hfk := hR.frozen 7
        have R' : RowI (wr.setCell ⟨w.heap.size + 1 + 1, 7, none⟩ (.int .i64 r7)) (w.heap.size + 1 + 1) (mid [r0, r1, r2, r3, r4, r5, r6, r7] 8) := by
          have := hR.set 7 ([r0, r1, r2, r3, r4, r5, r6, r7].getD 7 0)
          rw [mid_set [r0, r1, r2, r3, r4, r5, r6, r7] 7 (by simp)] at this
          exact this
        have HX := hide (And.intro R' (And.intro (hC.other ⟨w.heap.size + 1 + 1, 7, none⟩ (.int .i64 r7) (by dsimp only; omega)) (And.intro (hZ.other ⟨w.heap.size + 1 + 1, 7, none⟩ (.int .i64 r7) (by dsimp only; omega)) (hB.setCell (p := ⟨w.heap.size + 1 + 1, 7, none⟩) (by dsimp only; omega) (.int .i64 r7)))))
        generalize (mid [r0, r1, r2, r3, r4, r5, r6, r7] 7).getD 7 0 = y at *
        clear R' hR hC hZ hB
        rw [show ((7 : Nat) : Int) = 7 from rfl]
        go_wp2
        go_roundw
        case rel => exact ⟨8, by omega, by go_num, HX.out.1, HX.out.2.1, HX.out.2.2.1, HX.out.2.2.2⟩
        case measure => simp [intOf]
      · obtain ⟨z1, z2, z3⟩ := hZ.two'
        have kz := (hZ.set 0 (.int .i64 pc)).set 1 (.slice (some ⟨w.heap.size + 1 + 1, 0, none⟩) 8 8)
        have kz' : Blk ((wr.setCell ⟨w.heap.size, 0, none⟩ (.int .i64 pc)).setCell ⟨w.heap.size, 1, none⟩ (.slice (some ⟨w.heap.size + 1 + 1, 0, none⟩) 8 8)) w.heap.size #[.int .i64 pc, .slice (some ⟨w.heap.size + 1 + 1, 0, none⟩) 8 8] 58 := by simpa using kz
        obtain ⟨y1, y2, y3⟩ := kz'.two'
        have hR8 : RowI wr (w.heap.size + 1 + 1) [r0, r1, r2, r3, r4, r5, r6, r7] := hR
        have HX := hide (And.intro ((((hR8.other ⟨w.heap.size, 0, none⟩ (.int .i64 pc) (by dsimp only; omega)).other ⟨w.heap.size, 1, none⟩ (.slice (some ⟨w.heap.size + 1 + 1, 0, none⟩) 8 8) (by dsimp only; omega)).oi (base := w.heap.size) (by omega) (by simp [maxLen]) HZ.out)) ((hB.setCell (p := ⟨w.heap.size, 0, none⟩) (by dsimp only; omega) (.int .i64 pc)).setCell (p := ⟨w.heap.size, 1, none⟩) (by dsimp only; omega) (.slice (some ⟨w.heap.size + 1 + 1, 0, none⟩) 8 8)))
        clear hR hR8 hC hZ hB kz kz'
        rw [show ((8 : Nat) : Int) = 8 from rfl]
        go_wp2
        exact bodyPost_ret (v := .agg #[.int .i64 pc, .slice (some ⟨w.heap.size + 1 + 1, 0, none⟩) 8 8]) (by simp [results, Tryz.results99, go_sem, y1, y2]) rfl ⟨_, _, rfl, HX.out.1, HX.out.2⟩
end Go.Proofs.YtngdgogjlpjjpadGreat
