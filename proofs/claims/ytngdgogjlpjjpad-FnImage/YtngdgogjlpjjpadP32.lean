import Derived.Test.YtngdgogjlpjjpadP31
namespace Go.Proofs.Ytngdgogjlpjjpad
open Go.RowKit
set_option linter.unusedVariables false
set_option linter.unusedSimpArgs false
set_option maxRecDepth 100000
set_option maxHeartbeats 2000000 in
theorem sp0_0 (zs : List Int) (k : Nat) (K V : Int) (E1 : Hid (zs.getD k 0 = K)) (E2 : Hid (zs.getD (k + 1) 0 = V)) (z0 : 0 ≤ K) (z1 : K ≤ 255) (y0 : 0 ≤ V) (y1 : V ≤ 255) (P : PMod) (DP : DnR P) (c0 : K % 12 = 0) (c1 : V % 4 = 0) : SpFn zs k P { P with nm := ⟨#[]⟩ } (k + 2) := by
  intro w W r a n c M D o ds
  have R0 := mr_spoil D o ds
  have hs0 := D.sz
  clear D o ds
  go_enter Try.func60, Try.ntmps60
  go_wp2_with fail
  refine (R0.next K E1).mono ?_
  rintro e w1 ⟨rfl, R1⟩
  clear R0
  go_wp2_with fail
  refine (R1.next V E2).mono ?_
  rintro e w2 ⟨rfl, R2⟩
  clear R1 E1 E2
  have R3 := R2.below (al_below w2 (.cells #[.string ⟨#[]⟩, .string ⟨#[65]⟩, .string ⟨#[97, 98, 99, 100, 101, 102, 103, 104, 105, 106, 107, 108]⟩, .string ⟨#[97, 98, 99, 100, 101, 102, 103, 104, 105, 106, 107, 108, 109]⟩] 9))
  obtain ⟨b0, b1, b2, b3, b4, b5, b6, b7⟩ := R3.m.box.eight'
  obtain ⟨f0, f1, f2, f3, f4, f5, f6, f7⟩ := R3.m.box.froz
  obtain ⟨r0, r1, r2, r3, r4, r5, r6, r7⟩ := z8_cells R3.res
  obtain ⟨s0, s1, s2, s3, s4, s5, s6, s7⟩ := R3.res.froz
  have HF := hide (R3.setnm ⟨#[]⟩)
  clear R2 R3
  go_wp2
  refine spl_end HF.out.res rfl _ _ _ _ _ _ _ _ _ _ rfl ?_
  exact spl_fin HF.out _ _ _ _ _ _ _ _ rfl
set_option maxHeartbeats 2000000 in
theorem sp0_1 (zs : List Int) (k : Nat) (K V : Int) (E1 : Hid (zs.getD k 0 = K)) (E2 : Hid (zs.getD (k + 1) 0 = V)) (z0 : 0 ≤ K) (z1 : K ≤ 255) (y0 : 0 ≤ V) (y1 : V ≤ 255) (P : PMod) (DP : DnR P) (c0 : K % 12 = 0) (c1 : V % 4 = 1) : SpFn zs k P { P with nm := ⟨#[65]⟩ } (k + 2) := by
  intro w W r a n c M D o ds
  have R0 := mr_spoil D o ds
  have hs0 := D.sz
  clear D o ds
  go_enter Try.func60, Try.ntmps60
  go_wp2_with fail
  refine (R0.next K E1).mono ?_
  rintro e w1 ⟨rfl, R1⟩
  clear R0
  go_wp2_with fail
  refine (R1.next V E2).mono ?_
  rintro e w2 ⟨rfl, R2⟩
  clear R1 E1 E2
  have R3 := R2.below (al_below w2 (.cells #[.string ⟨#[]⟩, .string ⟨#[65]⟩, .string ⟨#[97, 98, 99, 100, 101, 102, 103, 104, 105, 106, 107, 108]⟩, .string ⟨#[97, 98, 99, 100, 101, 102, 103, 104, 105, 106, 107, 108, 109]⟩] 9))
  obtain ⟨b0, b1, b2, b3, b4, b5, b6, b7⟩ := R3.m.box.eight'
  obtain ⟨f0, f1, f2, f3, f4, f5, f6, f7⟩ := R3.m.box.froz
  obtain ⟨r0, r1, r2, r3, r4, r5, r6, r7⟩ := z8_cells R3.res
  obtain ⟨s0, s1, s2, s3, s4, s5, s6, s7⟩ := R3.res.froz
  have HF := hide (R3.setnm ⟨#[65]⟩)
  clear R2 R3
  go_wp2
  refine spl_end HF.out.res rfl _ _ _ _ _ _ _ _ _ _ rfl ?_
  exact spl_fin HF.out _ _ _ _ _ _ _ _ rfl
set_option maxHeartbeats 2000000 in
theorem sp0_2 (zs : List Int) (k : Nat) (K V : Int) (E1 : Hid (zs.getD k 0 = K)) (E2 : Hid (zs.getD (k + 1) 0 = V)) (z0 : 0 ≤ K) (z1 : K ≤ 255) (y0 : 0 ≤ V) (y1 : V ≤ 255) (P : PMod) (DP : DnR P) (c0 : K % 12 = 0) (c1 : V % 4 = 2) : SpFn zs k P { P with nm := ⟨#[97, 98, 99, 100, 101, 102, 103, 104, 105, 106, 107, 108]⟩ } (k + 2) := by
  intro w W r a n c M D o ds
  have R0 := mr_spoil D o ds
  have hs0 := D.sz
  clear D o ds
  go_enter Try.func60, Try.ntmps60
  go_wp2_with fail
  refine (R0.next K E1).mono ?_
  rintro e w1 ⟨rfl, R1⟩
  clear R0
  go_wp2_with fail
  refine (R1.next V E2).mono ?_
  rintro e w2 ⟨rfl, R2⟩
  clear R1 E1 E2
  have R3 := R2.below (al_below w2 (.cells #[.string ⟨#[]⟩, .string ⟨#[65]⟩, .string ⟨#[97, 98, 99, 100, 101, 102, 103, 104, 105, 106, 107, 108]⟩, .string ⟨#[97, 98, 99, 100, 101, 102, 103, 104, 105, 106, 107, 108, 109]⟩] 9))
  obtain ⟨b0, b1, b2, b3, b4, b5, b6, b7⟩ := R3.m.box.eight'
  obtain ⟨f0, f1, f2, f3, f4, f5, f6, f7⟩ := R3.m.box.froz
  obtain ⟨r0, r1, r2, r3, r4, r5, r6, r7⟩ := z8_cells R3.res
  obtain ⟨s0, s1, s2, s3, s4, s5, s6, s7⟩ := R3.res.froz
  have HF := hide (R3.setnm ⟨#[97, 98, 99, 100, 101, 102, 103, 104, 105, 106, 107, 108]⟩)
  clear R2 R3
  go_wp2
  refine spl_end HF.out.res rfl _ _ _ _ _ _ _ _ _ _ rfl ?_
  exact spl_fin HF.out _ _ _ _ _ _ _ _ rfl
set_option maxHeartbeats 2000000 in
theorem sp0_3 (zs : List Int) (k : Nat) (K V : Int) (E1 : Hid (zs.getD k 0 = K)) (E2 : Hid (zs.getD (k + 1) 0 = V)) (z0 : 0 ≤ K) (z1 : K ≤ 255) (y0 : 0 ≤ V) (y1 : V ≤ 255) (P : PMod) (DP : DnR P) (c0 : K % 12 = 0) (c1 : V % 4 = 3) : SpFn zs k P { P with nm := ⟨#[97, 98, 99, 100, 101, 102, 103, 104, 105, 106, 107, 108, 109]⟩ } (k + 2) := by
  intro w W r a n c M D o ds
  have R0 := mr_spoil D o ds
  have hs0 := D.sz
  clear D o ds
  go_enter Try.func60, Try.ntmps60
  go_wp2_with fail
  refine (R0.next K E1).mono ?_
  rintro e w1 ⟨rfl, R1⟩
  clear R0
  go_wp2_with fail
  refine (R1.next V E2).mono ?_
  rintro e w2 ⟨rfl, R2⟩
  clear R1 E1 E2
  have R3 := R2.below (al_below w2 (.cells #[.string ⟨#[]⟩, .string ⟨#[65]⟩, .string ⟨#[97, 98, 99, 100, 101, 102, 103, 104, 105, 106, 107, 108]⟩, .string ⟨#[97, 98, 99, 100, 101, 102, 103, 104, 105, 106, 107, 108, 109]⟩] 9))
  obtain ⟨b0, b1, b2, b3, b4, b5, b6, b7⟩ := R3.m.box.eight'
  obtain ⟨f0, f1, f2, f3, f4, f5, f6, f7⟩ := R3.m.box.froz
  obtain ⟨r0, r1, r2, r3, r4, r5, r6, r7⟩ := z8_cells R3.res
  obtain ⟨s0, s1, s2, s3, s4, s5, s6, s7⟩ := R3.res.froz
  have HF := hide (R3.setnm ⟨#[97, 98, 99, 100, 101, 102, 103, 104, 105, 106, 107, 108, 109]⟩)
  clear R2 R3
  go_wp2
  refine spl_end HF.out.res rfl _ _ _ _ _ _ _ _ _ _ rfl ?_
  exact spl_fin HF.out _ _ _ _ _ _ _ _ rfl
set_option maxHeartbeats 2000000 in
theorem sp5_0 (zs : List Int) (k : Nat) (K V : Int) (E1 : Hid (zs.getD k 0 = K)) (E2 : Hid (zs.getD (k + 1) 0 = V)) (z0 : 0 ≤ K) (z1 : K ≤ 255) (y0 : 0 ≤ V) (y1 : V ≤ 255) (P : PMod) (DP : DnR P) (c0 : K % 12 = 5) (c1 : V % 3 = 0) : SpFn zs k P { P with bss := -1 } (k + 2) := by
  intro w W r a n c M D o ds
  have R0 := mr_spoil D o ds
  have hs0 := D.sz
  clear D o ds
  go_enter Try.func60, Try.ntmps60
  go_wp2_with fail
  refine (R0.next K E1).mono ?_
  rintro e w1 ⟨rfl, R1⟩
  clear R0
  go_wp2_with fail
  refine (R1.next V E2).mono ?_
  rintro e w2 ⟨rfl, R2⟩
  clear R1 E1 E2
  have R3 := R2.below (al_below w2 (.cells #[.int .i64 (-1), .int .i64 512, .int .i64 513] 3))
  obtain ⟨b0, b1, b2, b3, b4, b5, b6, b7⟩ := R3.m.box.eight'
  obtain ⟨f0, f1, f2, f3, f4, f5, f6, f7⟩ := R3.m.box.froz
  obtain ⟨r0, r1, r2, r3, r4, r5, r6, r7⟩ := z8_cells R3.res
  obtain ⟨s0, s1, s2, s3, s4, s5, s6, s7⟩ := R3.res.froz
  have HF := hide (R3.setbss (-1))
  clear R2 R3
  go_wp2
  refine spl_end HF.out.res rfl _ _ _ _ _ _ _ _ _ _ rfl ?_
  exact spl_fin HF.out _ _ _ _ _ _ _ _ rfl
set_option maxHeartbeats 2000000 in
theorem sp5_1 (zs : List Int) (k : Nat) (K V : Int) (E1 : Hid (zs.getD k 0 = K)) (E2 : Hid (zs.getD (k + 1) 0 = V)) (z0 : 0 ≤ K) (z1 : K ≤ 255) (y0 : 0 ≤ V) (y1 : V ≤ 255) (P : PMod) (DP : DnR P) (c0 : K % 12 = 5) (c1 : V % 3 = 1) : SpFn zs k P { P with bss := 512 } (k + 2) := by
  intro w W r a n c M D o ds
  have R0 := mr_spoil D o ds
  have hs0 := D.sz
  clear D o ds
  go_enter Try.func60, Try.ntmps60
  go_wp2_with fail
  refine (R0.next K E1).mono ?_
  rintro e w1 ⟨rfl, R1⟩
  clear R0
  go_wp2_with fail
  refine (R1.next V E2).mono ?_
  rintro e w2 ⟨rfl, R2⟩
  clear R1 E1 E2
  have R3 := R2.below (al_below w2 (.cells #[.int .i64 (-1), .int .i64 512, .int .i64 513] 3))
  obtain ⟨b0, b1, b2, b3, b4, b5, b6, b7⟩ := R3.m.box.eight'
  obtain ⟨f0, f1, f2, f3, f4, f5, f6, f7⟩ := R3.m.box.froz
  obtain ⟨r0, r1, r2, r3, r4, r5, r6, r7⟩ := z8_cells R3.res
  obtain ⟨s0, s1, s2, s3, s4, s5, s6, s7⟩ := R3.res.froz
  have HF := hide (R3.setbss (512))
  clear R2 R3
  go_wp2
  refine spl_end HF.out.res rfl _ _ _ _ _ _ _ _ _ _ rfl ?_
  exact spl_fin HF.out _ _ _ _ _ _ _ _ rfl
set_option maxHeartbeats 2000000 in
theorem sp5_2 (zs : List Int) (k : Nat) (K V : Int) (E1 : Hid (zs.getD k 0 = K)) (E2 : Hid (zs.getD (k + 1) 0 = V)) (z0 : 0 ≤ K) (z1 : K ≤ 255) (y0 : 0 ≤ V) (y1 : V ≤ 255) (P : PMod) (DP : DnR P) (c0 : K % 12 = 5) (c1 : V % 3 = 2) : SpFn zs k P { P with bss := 513 } (k + 2) := by
  intro w W r a n c M D o ds
  have R0 := mr_spoil D o ds
  have hs0 := D.sz
  clear D o ds
  go_enter Try.func60, Try.ntmps60
  go_wp2_with fail
  refine (R0.next K E1).mono ?_
  rintro e w1 ⟨rfl, R1⟩
  clear R0
  go_wp2_with fail
  refine (R1.next V E2).mono ?_
  rintro e w2 ⟨rfl, R2⟩
  clear R1 E1 E2
  have R3 := R2.below (al_below w2 (.cells #[.int .i64 (-1), .int .i64 512, .int .i64 513] 3))
  obtain ⟨b0, b1, b2, b3, b4, b5, b6, b7⟩ := R3.m.box.eight'
  obtain ⟨f0, f1, f2, f3, f4, f5, f6, f7⟩ := R3.m.box.froz
  obtain ⟨r0, r1, r2, r3, r4, r5, r6, r7⟩ := z8_cells R3.res
  obtain ⟨s0, s1, s2, s3, s4, s5, s6, s7⟩ := R3.res.froz
  have HF := hide (R3.setbss (513))
  clear R2 R3
  go_wp2
  refine spl_end HF.out.res rfl _ _ _ _ _ _ _ _ _ _ rfl ?_
  exact spl_fin HF.out _ _ _ _ _ _ _ _ rfl
set_option maxHeartbeats 2000000 in
theorem sp1_0 (zs : List Int) (k : Nat) (K V : Int) (E1 : Hid (zs.getD k 0 = K)) (E2 : Hid (zs.getD (k + 1) 0 = V)) (z0 : 0 ≤ K) (z1 : K ≤ 255) (y0 : 0 ≤ V) (y1 : V ≤ 255) (P : PMod) (DP : DnR P) (c0 : K % 12 = 1) (c1 : V % 2 = 0) : SpFn zs k P { P with tz := List.replicate 200 0 } (k + 2) := by
  intro w W r a n c M D o ds
  have R0 := mr_spoil D o ds
  have hs0 := D.sz
  clear D o ds
  go_enter Try.func60, Try.ntmps60
  go_wp2_with fail
  refine (R0.next K E1).mono ?_
  rintro e w1 ⟨rfl, R1⟩
  clear R0
  go_wp2_with fail
  refine (R1.next V E2).mono ?_
  rintro e w2 ⟨rfl, R2⟩
  clear R1 E1 E2
  have hmk : ∀ W : World, (Instr.makeSlice 24 (.int .i64 200) (.int .i64 200)).run Try.prog W = .ok (.slice (some ⟨W.heap.size, 0, none⟩) 200 200) (W.alloc (.cells (zin 200) 3)) := fun W => mkI 200 (by omega) W
  have R3 := R2.below (al_below w2 (.cells (zin 200) 3))
  obtain ⟨b0, b1, b2, b3, b4, b5, b6, b7⟩ := R3.m.box.eight'
  obtain ⟨f0, f1, f2, f3, f4, f5, f6, f7⟩ := R3.m.box.froz
  obtain ⟨r0, r1, r2, r3, r4, r5, r6, r7⟩ := z8_cells R3.res
  obtain ⟨s0, s1, s2, s3, s4, s5, s6, s7⟩ := R3.res.froz
  have HF := hide (R2.newtext 200 (by omega))
  clear R2 R3
  go_wp2
  refine spl_end HF.out.res rfl _ _ _ _ _ _ _ _ _ _ rfl ?_
  exact spl_fin HF.out _ _ _ _ _ _ _ _ rfl
set_option maxHeartbeats 2000000 in
theorem sp1_1 (zs : List Int) (k : Nat) (K V : Int) (E1 : Hid (zs.getD k 0 = K)) (E2 : Hid (zs.getD (k + 1) 0 = V)) (z0 : 0 ≤ K) (z1 : K ≤ 255) (y0 : 0 ≤ V) (y1 : V ≤ 255) (P : PMod) (DP : DnR P) (c0 : K % 12 = 1) (c1 : V % 2 = 1) : SpFn zs k P { P with tz := List.replicate 201 0 } (k + 2) := by
  intro w W r a n c M D o ds
  have R0 := mr_spoil D o ds
  have hs0 := D.sz
  clear D o ds
  go_enter Try.func60, Try.ntmps60
  go_wp2_with fail
  refine (R0.next K E1).mono ?_
  rintro e w1 ⟨rfl, R1⟩
  clear R0
  go_wp2_with fail
  refine (R1.next V E2).mono ?_
  rintro e w2 ⟨rfl, R2⟩
  clear R1 E1 E2
  have hmk : ∀ W : World, (Instr.makeSlice 24 (.int .i64 201) (.int .i64 201)).run Try.prog W = .ok (.slice (some ⟨W.heap.size, 0, none⟩) 201 201) (W.alloc (.cells (zin 201) 3)) := fun W => mkI 201 (by omega) W
  have R3 := R2.below (al_below w2 (.cells (zin 201) 3))
  obtain ⟨b0, b1, b2, b3, b4, b5, b6, b7⟩ := R3.m.box.eight'
  obtain ⟨f0, f1, f2, f3, f4, f5, f6, f7⟩ := R3.m.box.froz
  obtain ⟨r0, r1, r2, r3, r4, r5, r6, r7⟩ := z8_cells R3.res
  obtain ⟨s0, s1, s2, s3, s4, s5, s6, s7⟩ := R3.res.froz
  have HF := hide (R2.newtext 201 (by omega))
  clear R2 R3
  go_wp2
  refine spl_end HF.out.res rfl _ _ _ _ _ _ _ _ _ _ rfl ?_
  exact spl_fin HF.out _ _ _ _ _ _ _ _ rfl
set_option maxHeartbeats 2000000 in
theorem sp4_0 (zs : List Int) (k : Nat) (K V : Int) (E1 : Hid (zs.getD k 0 = K)) (E2 : Hid (zs.getD (k + 1) 0 = V)) (z0 : 0 ≤ K) (z1 : K ≤ 255) (y0 : 0 ≤ V) (y1 : V ≤ 255) (P : PMod) (DP : DnR P) (c0 : K % 12 = 4) (c1 : V % 2 = 0) : SpFn zs k P { P with dz := List.replicate 512 0 } (k + 2) := by
  intro w W r a n c M D o ds
  have R0 := mr_spoil D o ds
  have hs0 := D.sz
  clear D o ds
  go_enter Try.func60, Try.ntmps60
  go_wp2_with fail
  refine (R0.next K E1).mono ?_
  rintro e w1 ⟨rfl, R1⟩
  clear R0
  go_wp2_with fail
  refine (R1.next V E2).mono ?_
  rintro e w2 ⟨rfl, R2⟩
  clear R1 E1 E2
  have hmk : ∀ W : World, (Instr.makeSlice 22 (.int .i64 512) (.int .i64 512)).run Try.prog W = .ok (.slice (some ⟨W.heap.size, 0, none⟩) 512 512) (W.alloc (.cells (zb8 512) 5)) := fun W => mk8 512 (by omega) W
  have R3 := R2.below (al_below w2 (.cells (zb8 512) 5))
  obtain ⟨b0, b1, b2, b3, b4, b5, b6, b7⟩ := R3.m.box.eight'
  obtain ⟨f0, f1, f2, f3, f4, f5, f6, f7⟩ := R3.m.box.froz
  obtain ⟨r0, r1, r2, r3, r4, r5, r6, r7⟩ := z8_cells R3.res
  obtain ⟨s0, s1, s2, s3, s4, s5, s6, s7⟩ := R3.res.froz
  have HF := hide (R2.newdata 512 (by omega))
  clear R2 R3
  go_wp2
  refine spl_end HF.out.res rfl _ _ _ _ _ _ _ _ _ _ rfl ?_
  exact spl_fin HF.out _ _ _ _ _ _ _ _ rfl
set_option maxHeartbeats 2000000 in
theorem sp4_1 (zs : List Int) (k : Nat) (K V : Int) (E1 : Hid (zs.getD k 0 = K)) (E2 : Hid (zs.getD (k + 1) 0 = V)) (z0 : 0 ≤ K) (z1 : K ≤ 255) (y0 : 0 ≤ V) (y1 : V ≤ 255) (P : PMod) (DP : DnR P) (c0 : K % 12 = 4) (c1 : V % 2 = 1) : SpFn zs k P { P with dz := List.replicate 513 0 } (k + 2) := by
  intro w W r a n c M D o ds
  have R0 := mr_spoil D o ds
  have hs0 := D.sz
  clear D o ds
  go_enter Try.func60, Try.ntmps60
  go_wp2_with fail
  refine (R0.next K E1).mono ?_
  rintro e w1 ⟨rfl, R1⟩
  clear R0
  go_wp2_with fail
  refine (R1.next V E2).mono ?_
  rintro e w2 ⟨rfl, R2⟩
  clear R1 E1 E2
  have hmk : ∀ W : World, (Instr.makeSlice 22 (.int .i64 513) (.int .i64 513)).run Try.prog W = .ok (.slice (some ⟨W.heap.size, 0, none⟩) 513 513) (W.alloc (.cells (zb8 513) 5)) := fun W => mk8 513 (by omega) W
  have R3 := R2.below (al_below w2 (.cells (zb8 513) 5))
  obtain ⟨b0, b1, b2, b3, b4, b5, b6, b7⟩ := R3.m.box.eight'
  obtain ⟨f0, f1, f2, f3, f4, f5, f6, f7⟩ := R3.m.box.froz
  obtain ⟨r0, r1, r2, r3, r4, r5, r6, r7⟩ := z8_cells R3.res
  obtain ⟨s0, s1, s2, s3, s4, s5, s6, s7⟩ := R3.res.froz
  have HF := hide (R2.newdata 513 (by omega))
  clear R2 R3
  go_wp2
  refine spl_end HF.out.res rfl _ _ _ _ _ _ _ _ _ _ rfl ?_
  exact spl_fin HF.out _ _ _ _ _ _ _ _ rfl
set_option maxHeartbeats 2000000 in
theorem sp3_0 (zs : List Int) (k : Nat) (K V : Int) (E1 : Hid (zs.getD k 0 = K)) (E2 : Hid (zs.getD (k + 1) 0 = V)) (z0 : 0 ≤ K) (z1 : K ≤ 255) (y0 : 0 ≤ V) (y1 : V ≤ 255) (P : PMod) (DP : DnR P) (c0 : K % 12 = 3) (c1 : V % 3 = 0) : SpFn zs k P { P with tz := P.tz ++ [-1] } (k + 2) := by
  intro w W r a n c M D o ds
  have R0 := mr_spoil D o ds
  have hs0 := D.sz
  have htl := DP.t.1
  clear D o ds
  go_enter Try.func60, Try.ntmps60
  go_wp2_with fail
  refine (R0.next K E1).mono ?_
  rintro e w1 ⟨rfl, R1⟩
  clear R0
  go_wp2_with fail
  refine (R1.next V E2).mono ?_
  rintro e w2 ⟨rfl, R2⟩
  clear R1 E1 E2
  obtain ⟨p0, q0⟩ := R2.two 1 (.slice M.a1 P.tz.length M.c1) rfl
  obtain ⟨p1, q1⟩ := (R2.below (al_below w2 (.cells #[.int .i64 (-1), .int .i64 4294967295, .int .i64 4294967296] 3))).two 1 (.slice M.a1 P.tz.length M.c1) rfl
  obtain ⟨p2, q2⟩ := ((R2.below (al_below w2 (.cells #[.int .i64 (-1), .int .i64 4294967295, .int .i64 4294967296] 3))).below (al_below (w2.alloc (.cells #[.int .i64 (-1), .int .i64 4294967295, .int .i64 4294967296] 3)) (.cells #[.int .i64 (-1)] 3))).two 1 (.slice M.a1 P.tz.length M.c1) rfl
  have HM0 := hide ((R2.drew.below (al_below w2.drew (.cells #[.int .i64 (-1), .int .i64 4294967295, .int .i64 4294967296] 3))).below (al_below (w2.drew.alloc (.cells #[.int .i64 (-1), .int .i64 4294967295, .int .i64 4294967296] 3)) (.cells #[.int .i64 (-1)] 3)))
  have HM1 := hide ((R2.below (al_below w2 (.cells #[.int .i64 (-1), .int .i64 4294967295, .int .i64 4294967296] 3))).drew.below (al_below (w2.alloc (.cells #[.int .i64 (-1), .int .i64 4294967295, .int .i64 4294967296] 3)).drew (.cells #[.int .i64 (-1)] 3)))
  have HM2 := hide ((R2.below (al_below w2 (.cells #[.int .i64 (-1), .int .i64 4294967295, .int .i64 4294967296] 3))).below (al_below (w2.alloc (.cells #[.int .i64 (-1), .int .i64 4294967295, .int .i64 4294967296] 3)) (.cells #[.int .i64 (-1)] 3))).drew
  have HM3 := hide ((R2.below (al_below w2 (.cells #[.int .i64 (-1), .int .i64 4294967295, .int .i64 4294967296] 3))).below (al_below (w2.alloc (.cells #[.int .i64 (-1), .int .i64 4294967295, .int .i64 4294967296] 3)) (.cells #[.int .i64 (-1)] 3)))
  have HO0 := hide HM0.out.m.o.t
  have hS0 := HM0.out.m.d.sz
  have HO1 := hide HM1.out.m.o.t
  have hS1 := HM1.out.m.d.sz
  have HO2 := hide HM2.out.m.o.t
  have hS2 := HM2.out.m.d.sz
  have HO3 := hide HM3.out.m.o.t
  have hS3 := HM3.out.m.d.sz
  have HN0 := hide (cells_at (w2.drew.alloc (.cells #[.int .i64 (-1), .int .i64 4294967295, .int .i64 4294967296] 3)) (w2.heap.size + 1) _ 3 (clI (-1)) rfl (by simp [drw_sz]))
  have HN1 := hide (cells_at (w2.alloc (.cells #[.int .i64 (-1), .int .i64 4294967295, .int .i64 4294967296] 3)).drew (w2.heap.size + 1) _ 3 (clI (-1)) rfl (by simp [drw_sz]))
  have HN2 := hide (cells_at (w2.alloc (.cells #[.int .i64 (-1), .int .i64 4294967295, .int .i64 4294967296] 3)) (w2.heap.size + 1) _ 3 (clI (-1)) rfl (by simp [drw_sz]))
  have HN3 := hide (cells_at (w2.alloc (.cells #[.int .i64 (-1), .int .i64 4294967295, .int .i64 4294967296] 3)) (w2.heap.size + 1) _ 3 (clI (-1)) rfl (by simp [drw_sz]))
  have ct : V.tmod 3 = 0 := by rw [Int.tmod_eq_emod_of_nonneg y0]; exact c1
  obtain ⟨iI, hiI, hz0iI, hz1iI, hz2iI⟩ := info_parts infoI
  have HR2 := hide R2
  clear R2
  go_wp2_with fail
  go_region_law (first
    | (refine step_append_lies _ rfl _ _ 24 rfl w.heap.size 3 iI (.int .i64 0) 1 8 Try.underlying24 hiI hz0iI hz1iI hz2iI rfl (by decide) (.slice M.a1 P.tz.length M.c1) P.tz.length (P.tz.flatMap clI) rfl (by first | exact HO0.out | exact HO1.out | exact HO2.out | exact HO3.out) ⟨w2.heap.size + 1, 0, none⟩ 1 1 (clI (-1)) rfl rfl (by first | exact HN0.out | exact HN1.out | exact HN2.out | exact HN3.out) (by intro u hu; simp [clI, clT, clX] at hu; first | (subst hu; rfl) | (rcases hu with rfl | rfl | rfl <;> rfl)) (by decide) (by unfold maxLen; omega) (by omega) (by first | exact hS0 | exact hS1 | exact hS2 | exact hS3) _ rfl ?_; intro g4 c4 w5 hown hgr hat hlt4; obtain ⟨p9, q9⟩ := (show _ ∧ _ from (by first | exact HM0.out.cell4 HO0.out hgr (by decide) 1 (u := .slice M.a1 P.tz.length M.c1) rfl | exact HM1.out.cell4 HO1.out hgr (by decide) 1 (u := .slice M.a1 P.tz.length M.c1) rfl | exact HM2.out.cell4 HO2.out hgr (by decide) 1 (u := .slice M.a1 P.tz.length M.c1) rfl | exact HM3.out.cell4 HO3.out hgr (by decide) 1 (u := .slice M.a1 P.tz.length M.c1) rfl))))
  all_goals
    have HF := hide (show MR w (w5.setCell ⟨W.heap.size, 1, none⟩ (.slice (some ⟨g4, 0, none⟩) (P.tz.length + 1) c4)) r a n c zs (k + 1 + 1) W.heap.size (W.heap.size + 1) _ _ from (by first | exact MR.text (x := -1) HM0.out hown hgr hat | exact MR.text (x := -1) HM1.out hown hgr hat | exact MR.text (x := -1) HM2.out hown hgr hat | exact MR.text (x := -1) HM3.out hown hgr hat))
    clear HM0 HO0 HN0 hS0 HM1 HO1 HN1 hS1 HM2 HO2 HN2 hS2 HM3 HO3 HN3 hS3 hown hgr hat hlt4 p9 q9 p0 q0 p1 q1 p2 q2 HR2
    generalize w5.setCell ⟨W.heap.size, 1, none⟩ (.slice (some ⟨g4, 0, none⟩) (P.tz.length + 1) c4) = W5 at *
    obtain ⟨b0, b1, b2, b3, b4, b5, b6, b7⟩ := HF.out.m.box.eight'
    obtain ⟨f0, f1, f2, f3, f4, f5, f6, f7⟩ := HF.out.m.box.froz
    obtain ⟨r0, r1, r2, r3, r4, r5, r6, r7⟩ := z8_cells HF.out.res
    obtain ⟨s0, s1, s2, s3, s4, s5, s6, s7⟩ := HF.out.res.froz
    go_wp2
    refine spl_end HF.out.res rfl _ _ _ _ _ _ _ _ _ _ rfl ?_
    exact spl_fin HF.out _ _ _ _ _ _ _ _ (by simp [modV])
set_option maxHeartbeats 2000000 in
theorem sp3_1 (zs : List Int) (k : Nat) (K V : Int) (E1 : Hid (zs.getD k 0 = K)) (E2 : Hid (zs.getD (k + 1) 0 = V)) (z0 : 0 ≤ K) (z1 : K ≤ 255) (y0 : 0 ≤ V) (y1 : V ≤ 255) (P : PMod) (DP : DnR P) (c0 : K % 12 = 3) (c1 : V % 3 = 1) : SpFn zs k P { P with tz := P.tz ++ [4294967295] } (k + 2) := by
  intro w W r a n c M D o ds
  have R0 := mr_spoil D o ds
  have hs0 := D.sz
  have htl := DP.t.1
  clear D o ds
  go_enter Try.func60, Try.ntmps60
  go_wp2_with fail
  refine (R0.next K E1).mono ?_
  rintro e w1 ⟨rfl, R1⟩
  clear R0
  go_wp2_with fail
  refine (R1.next V E2).mono ?_
  rintro e w2 ⟨rfl, R2⟩
  clear R1 E1 E2
  obtain ⟨p0, q0⟩ := R2.two 1 (.slice M.a1 P.tz.length M.c1) rfl
  obtain ⟨p1, q1⟩ := (R2.below (al_below w2 (.cells #[.int .i64 (-1), .int .i64 4294967295, .int .i64 4294967296] 3))).two 1 (.slice M.a1 P.tz.length M.c1) rfl
  obtain ⟨p2, q2⟩ := ((R2.below (al_below w2 (.cells #[.int .i64 (-1), .int .i64 4294967295, .int .i64 4294967296] 3))).below (al_below (w2.alloc (.cells #[.int .i64 (-1), .int .i64 4294967295, .int .i64 4294967296] 3)) (.cells #[.int .i64 4294967295] 3))).two 1 (.slice M.a1 P.tz.length M.c1) rfl
  have HM0 := hide ((R2.drew.below (al_below w2.drew (.cells #[.int .i64 (-1), .int .i64 4294967295, .int .i64 4294967296] 3))).below (al_below (w2.drew.alloc (.cells #[.int .i64 (-1), .int .i64 4294967295, .int .i64 4294967296] 3)) (.cells #[.int .i64 4294967295] 3)))
  have HM1 := hide ((R2.below (al_below w2 (.cells #[.int .i64 (-1), .int .i64 4294967295, .int .i64 4294967296] 3))).drew.below (al_below (w2.alloc (.cells #[.int .i64 (-1), .int .i64 4294967295, .int .i64 4294967296] 3)).drew (.cells #[.int .i64 4294967295] 3)))
  have HM2 := hide ((R2.below (al_below w2 (.cells #[.int .i64 (-1), .int .i64 4294967295, .int .i64 4294967296] 3))).below (al_below (w2.alloc (.cells #[.int .i64 (-1), .int .i64 4294967295, .int .i64 4294967296] 3)) (.cells #[.int .i64 4294967295] 3))).drew
  have HM3 := hide ((R2.below (al_below w2 (.cells #[.int .i64 (-1), .int .i64 4294967295, .int .i64 4294967296] 3))).below (al_below (w2.alloc (.cells #[.int .i64 (-1), .int .i64 4294967295, .int .i64 4294967296] 3)) (.cells #[.int .i64 4294967295] 3)))
  have HO0 := hide HM0.out.m.o.t
  have hS0 := HM0.out.m.d.sz
  have HO1 := hide HM1.out.m.o.t
  have hS1 := HM1.out.m.d.sz
  have HO2 := hide HM2.out.m.o.t
  have hS2 := HM2.out.m.d.sz
  have HO3 := hide HM3.out.m.o.t
  have hS3 := HM3.out.m.d.sz
  have HN0 := hide (cells_at (w2.drew.alloc (.cells #[.int .i64 (-1), .int .i64 4294967295, .int .i64 4294967296] 3)) (w2.heap.size + 1) _ 3 (clI (4294967295)) rfl (by simp [drw_sz]))
  have HN1 := hide (cells_at (w2.alloc (.cells #[.int .i64 (-1), .int .i64 4294967295, .int .i64 4294967296] 3)).drew (w2.heap.size + 1) _ 3 (clI (4294967295)) rfl (by simp [drw_sz]))
  have HN2 := hide (cells_at (w2.alloc (.cells #[.int .i64 (-1), .int .i64 4294967295, .int .i64 4294967296] 3)) (w2.heap.size + 1) _ 3 (clI (4294967295)) rfl (by simp [drw_sz]))
  have HN3 := hide (cells_at (w2.alloc (.cells #[.int .i64 (-1), .int .i64 4294967295, .int .i64 4294967296] 3)) (w2.heap.size + 1) _ 3 (clI (4294967295)) rfl (by simp [drw_sz]))
  have ct : V.tmod 3 = 1 := by rw [Int.tmod_eq_emod_of_nonneg y0]; exact c1
  obtain ⟨iI, hiI, hz0iI, hz1iI, hz2iI⟩ := info_parts infoI
  have HR2 := hide R2
  clear R2
  go_wp2_with fail
  go_region_law (first
    | (refine step_append_lies _ rfl _ _ 24 rfl w.heap.size 3 iI (.int .i64 0) 1 8 Try.underlying24 hiI hz0iI hz1iI hz2iI rfl (by decide) (.slice M.a1 P.tz.length M.c1) P.tz.length (P.tz.flatMap clI) rfl (by first | exact HO0.out | exact HO1.out | exact HO2.out | exact HO3.out) ⟨w2.heap.size + 1, 0, none⟩ 1 1 (clI (4294967295)) rfl rfl (by first | exact HN0.out | exact HN1.out | exact HN2.out | exact HN3.out) (by intro u hu; simp [clI, clT, clX] at hu; first | (subst hu; rfl) | (rcases hu with rfl | rfl | rfl <;> rfl)) (by decide) (by unfold maxLen; omega) (by omega) (by first | exact hS0 | exact hS1 | exact hS2 | exact hS3) _ rfl ?_; intro g4 c4 w5 hown hgr hat hlt4; obtain ⟨p9, q9⟩ := (show _ ∧ _ from (by first | exact HM0.out.cell4 HO0.out hgr (by decide) 1 (u := .slice M.a1 P.tz.length M.c1) rfl | exact HM1.out.cell4 HO1.out hgr (by decide) 1 (u := .slice M.a1 P.tz.length M.c1) rfl | exact HM2.out.cell4 HO2.out hgr (by decide) 1 (u := .slice M.a1 P.tz.length M.c1) rfl | exact HM3.out.cell4 HO3.out hgr (by decide) 1 (u := .slice M.a1 P.tz.length M.c1) rfl))))
  all_goals
    have HF := hide (show MR w (w5.setCell ⟨W.heap.size, 1, none⟩ (.slice (some ⟨g4, 0, none⟩) (P.tz.length + 1) c4)) r a n c zs (k + 1 + 1) W.heap.size (W.heap.size + 1) _ _ from (by first | exact MR.text (x := 4294967295) HM0.out hown hgr hat | exact MR.text (x := 4294967295) HM1.out hown hgr hat | exact MR.text (x := 4294967295) HM2.out hown hgr hat | exact MR.text (x := 4294967295) HM3.out hown hgr hat))
    clear HM0 HO0 HN0 hS0 HM1 HO1 HN1 hS1 HM2 HO2 HN2 hS2 HM3 HO3 HN3 hS3 hown hgr hat hlt4 p9 q9 p0 q0 p1 q1 p2 q2 HR2
    generalize w5.setCell ⟨W.heap.size, 1, none⟩ (.slice (some ⟨g4, 0, none⟩) (P.tz.length + 1) c4) = W5 at *
    obtain ⟨b0, b1, b2, b3, b4, b5, b6, b7⟩ := HF.out.m.box.eight'
    obtain ⟨f0, f1, f2, f3, f4, f5, f6, f7⟩ := HF.out.m.box.froz
    obtain ⟨r0, r1, r2, r3, r4, r5, r6, r7⟩ := z8_cells HF.out.res
    obtain ⟨s0, s1, s2, s3, s4, s5, s6, s7⟩ := HF.out.res.froz
    go_wp2
    refine spl_end HF.out.res rfl _ _ _ _ _ _ _ _ _ _ rfl ?_
    exact spl_fin HF.out _ _ _ _ _ _ _ _ (by simp [modV])
set_option maxHeartbeats 2000000 in
theorem sp3_2 (zs : List Int) (k : Nat) (K V : Int) (E1 : Hid (zs.getD k 0 = K)) (E2 : Hid (zs.getD (k + 1) 0 = V)) (z0 : 0 ≤ K) (z1 : K ≤ 255) (y0 : 0 ≤ V) (y1 : V ≤ 255) (P : PMod) (DP : DnR P) (c0 : K % 12 = 3) (c1 : V % 3 = 2) : SpFn zs k P { P with tz := P.tz ++ [4294967296] } (k + 2) := by
  intro w W r a n c M D o ds
  have R0 := mr_spoil D o ds
  have hs0 := D.sz
  have htl := DP.t.1
  clear D o ds
  go_enter Try.func60, Try.ntmps60
  go_wp2_with fail
  refine (R0.next K E1).mono ?_
  rintro e w1 ⟨rfl, R1⟩
  clear R0
  go_wp2_with fail
  refine (R1.next V E2).mono ?_
  rintro e w2 ⟨rfl, R2⟩
  clear R1 E1 E2
  obtain ⟨p0, q0⟩ := R2.two 1 (.slice M.a1 P.tz.length M.c1) rfl
  obtain ⟨p1, q1⟩ := (R2.below (al_below w2 (.cells #[.int .i64 (-1), .int .i64 4294967295, .int .i64 4294967296] 3))).two 1 (.slice M.a1 P.tz.length M.c1) rfl
  obtain ⟨p2, q2⟩ := ((R2.below (al_below w2 (.cells #[.int .i64 (-1), .int .i64 4294967295, .int .i64 4294967296] 3))).below (al_below (w2.alloc (.cells #[.int .i64 (-1), .int .i64 4294967295, .int .i64 4294967296] 3)) (.cells #[.int .i64 4294967296] 3))).two 1 (.slice M.a1 P.tz.length M.c1) rfl
  have HM0 := hide ((R2.drew.below (al_below w2.drew (.cells #[.int .i64 (-1), .int .i64 4294967295, .int .i64 4294967296] 3))).below (al_below (w2.drew.alloc (.cells #[.int .i64 (-1), .int .i64 4294967295, .int .i64 4294967296] 3)) (.cells #[.int .i64 4294967296] 3)))
  have HM1 := hide ((R2.below (al_below w2 (.cells #[.int .i64 (-1), .int .i64 4294967295, .int .i64 4294967296] 3))).drew.below (al_below (w2.alloc (.cells #[.int .i64 (-1), .int .i64 4294967295, .int .i64 4294967296] 3)).drew (.cells #[.int .i64 4294967296] 3)))
  have HM2 := hide ((R2.below (al_below w2 (.cells #[.int .i64 (-1), .int .i64 4294967295, .int .i64 4294967296] 3))).below (al_below (w2.alloc (.cells #[.int .i64 (-1), .int .i64 4294967295, .int .i64 4294967296] 3)) (.cells #[.int .i64 4294967296] 3))).drew
  have HM3 := hide ((R2.below (al_below w2 (.cells #[.int .i64 (-1), .int .i64 4294967295, .int .i64 4294967296] 3))).below (al_below (w2.alloc (.cells #[.int .i64 (-1), .int .i64 4294967295, .int .i64 4294967296] 3)) (.cells #[.int .i64 4294967296] 3)))
  have HO0 := hide HM0.out.m.o.t
  have hS0 := HM0.out.m.d.sz
  have HO1 := hide HM1.out.m.o.t
  have hS1 := HM1.out.m.d.sz
  have HO2 := hide HM2.out.m.o.t
  have hS2 := HM2.out.m.d.sz
  have HO3 := hide HM3.out.m.o.t
  have hS3 := HM3.out.m.d.sz
  have HN0 := hide (cells_at (w2.drew.alloc (.cells #[.int .i64 (-1), .int .i64 4294967295, .int .i64 4294967296] 3)) (w2.heap.size + 1) _ 3 (clI (4294967296)) rfl (by simp [drw_sz]))
  have HN1 := hide (cells_at (w2.alloc (.cells #[.int .i64 (-1), .int .i64 4294967295, .int .i64 4294967296] 3)).drew (w2.heap.size + 1) _ 3 (clI (4294967296)) rfl (by simp [drw_sz]))
  have HN2 := hide (cells_at (w2.alloc (.cells #[.int .i64 (-1), .int .i64 4294967295, .int .i64 4294967296] 3)) (w2.heap.size + 1) _ 3 (clI (4294967296)) rfl (by simp [drw_sz]))
  have HN3 := hide (cells_at (w2.alloc (.cells #[.int .i64 (-1), .int .i64 4294967295, .int .i64 4294967296] 3)) (w2.heap.size + 1) _ 3 (clI (4294967296)) rfl (by simp [drw_sz]))
  have ct : V.tmod 3 = 2 := by rw [Int.tmod_eq_emod_of_nonneg y0]; exact c1
  obtain ⟨iI, hiI, hz0iI, hz1iI, hz2iI⟩ := info_parts infoI
  have HR2 := hide R2
  clear R2
  go_wp2_with fail
  go_region_law (first
    | (refine step_append_lies _ rfl _ _ 24 rfl w.heap.size 3 iI (.int .i64 0) 1 8 Try.underlying24 hiI hz0iI hz1iI hz2iI rfl (by decide) (.slice M.a1 P.tz.length M.c1) P.tz.length (P.tz.flatMap clI) rfl (by first | exact HO0.out | exact HO1.out | exact HO2.out | exact HO3.out) ⟨w2.heap.size + 1, 0, none⟩ 1 1 (clI (4294967296)) rfl rfl (by first | exact HN0.out | exact HN1.out | exact HN2.out | exact HN3.out) (by intro u hu; simp [clI, clT, clX] at hu; first | (subst hu; rfl) | (rcases hu with rfl | rfl | rfl <;> rfl)) (by decide) (by unfold maxLen; omega) (by omega) (by first | exact hS0 | exact hS1 | exact hS2 | exact hS3) _ rfl ?_; intro g4 c4 w5 hown hgr hat hlt4; obtain ⟨p9, q9⟩ := (show _ ∧ _ from (by first | exact HM0.out.cell4 HO0.out hgr (by decide) 1 (u := .slice M.a1 P.tz.length M.c1) rfl | exact HM1.out.cell4 HO1.out hgr (by decide) 1 (u := .slice M.a1 P.tz.length M.c1) rfl | exact HM2.out.cell4 HO2.out hgr (by decide) 1 (u := .slice M.a1 P.tz.length M.c1) rfl | exact HM3.out.cell4 HO3.out hgr (by decide) 1 (u := .slice M.a1 P.tz.length M.c1) rfl))))
  all_goals
    have HF := hide (show MR w (w5.setCell ⟨W.heap.size, 1, none⟩ (.slice (some ⟨g4, 0, none⟩) (P.tz.length + 1) c4)) r a n c zs (k + 1 + 1) W.heap.size (W.heap.size + 1) _ _ from (by first | exact MR.text (x := 4294967296) HM0.out hown hgr hat | exact MR.text (x := 4294967296) HM1.out hown hgr hat | exact MR.text (x := 4294967296) HM2.out hown hgr hat | exact MR.text (x := 4294967296) HM3.out hown hgr hat))
    clear HM0 HO0 HN0 hS0 HM1 HO1 HN1 hS1 HM2 HO2 HN2 hS2 HM3 HO3 HN3 hS3 hown hgr hat hlt4 p9 q9 p0 q0 p1 q1 p2 q2 HR2
    generalize w5.setCell ⟨W.heap.size, 1, none⟩ (.slice (some ⟨g4, 0, none⟩) (P.tz.length + 1) c4) = W5 at *
    obtain ⟨b0, b1, b2, b3, b4, b5, b6, b7⟩ := HF.out.m.box.eight'
    obtain ⟨f0, f1, f2, f3, f4, f5, f6, f7⟩ := HF.out.m.box.froz
    obtain ⟨r0, r1, r2, r3, r4, r5, r6, r7⟩ := z8_cells HF.out.res
    obtain ⟨s0, s1, s2, s3, s4, s5, s6, s7⟩ := HF.out.res.froz
    go_wp2
    refine spl_end HF.out.res rfl _ _ _ _ _ _ _ _ _ _ rfl ?_
    exact spl_fin HF.out _ _ _ _ _ _ _ _ (by simp [modV])
set_option maxHeartbeats 2000000 in
theorem sp2_0 (zs : List Int) (k : Nat) (K V : Int) (E1 : Hid (zs.getD k 0 = K)) (E2 : Hid (zs.getD (k + 1) 0 = V)) (z0 : 0 ≤ K) (z1 : K ≤ 255) (y0 : 0 ≤ V) (y1 : V ≤ 255) (P : PMod) (DP : DnR P) (c0 : K % 12 = 2) (c1 : V % 3 = 0) : SpFn zs k P { P with bl := P.bl ++ [List.replicate 0 0] } (k + 2) := by
  intro w W r a n c M D o ds
  have R0 := mr_spoil D o ds
  have hs0 := D.sz
  have hbl3 : M.bl.length ≤ 3 := by have := DP.b.1; rw [← o.bls, List.length_map] at this; exact this
  clear D o ds
  go_enter Try.func60, Try.ntmps60
  go_wp2_with fail
  refine (R0.next K E1).mono ?_
  rintro e w1 ⟨rfl, R1⟩
  clear R0
  go_wp2_with fail
  refine (R1.next V E2).mono ?_
  rintro e w2 ⟨rfl, R2⟩
  clear R1 E1 E2
  obtain ⟨p0, q0⟩ := R2.two 2 (.slice M.a2 M.bl.length M.c2) rfl
  obtain ⟨p1, q1⟩ := (R2.below (al_below w2 (.cells #[.int .i64 0, .int .i64 64, .int .i64 65] 3))).two 2 (.slice M.a2 M.bl.length M.c2) rfl
  obtain ⟨p2, q2⟩ := ((R2.below (al_below w2 (.cells #[.int .i64 0, .int .i64 64, .int .i64 65] 3))).below (al_below (w2.alloc (.cells #[.int .i64 0, .int .i64 64, .int .i64 65] 3)) (.cells (zin 0) 3))).two 2 (.slice M.a2 M.bl.length M.c2) rfl
  obtain ⟨p3, q3⟩ := (((R2.below (al_below w2 (.cells #[.int .i64 0, .int .i64 64, .int .i64 65] 3))).below (al_below (w2.alloc (.cells #[.int .i64 0, .int .i64 64, .int .i64 65] 3)) (.cells (zin 0) 3))).below (al_below ((w2.alloc (.cells #[.int .i64 0, .int .i64 64, .int .i64 65] 3)).alloc (.cells (zin 0) 3)) (.cells #[.slice (some ⟨w2.heap.size + 1, 0, none⟩) 0 0] 24))).two 2 (.slice M.a2 M.bl.length M.c2) rfl
  have HM0 := hide (((R2.drew.below (al_below w2.drew (.cells #[.int .i64 0, .int .i64 64, .int .i64 65] 3))).below (al_below (w2.drew.alloc (.cells #[.int .i64 0, .int .i64 64, .int .i64 65] 3)) (.cells (zin 0) 3))).below (al_below ((w2.drew.alloc (.cells #[.int .i64 0, .int .i64 64, .int .i64 65] 3)).alloc (.cells (zin 0) 3)) (.cells #[.slice (some ⟨w2.heap.size + 1, 0, none⟩) 0 0] 24)))
  have HM1 := hide (((R2.below (al_below w2 (.cells #[.int .i64 0, .int .i64 64, .int .i64 65] 3))).drew.below (al_below (w2.alloc (.cells #[.int .i64 0, .int .i64 64, .int .i64 65] 3)).drew (.cells (zin 0) 3))).below (al_below ((w2.alloc (.cells #[.int .i64 0, .int .i64 64, .int .i64 65] 3)).drew.alloc (.cells (zin 0) 3)) (.cells #[.slice (some ⟨w2.heap.size + 1, 0, none⟩) 0 0] 24)))
  have HM2 := hide (((R2.below (al_below w2 (.cells #[.int .i64 0, .int .i64 64, .int .i64 65] 3))).below (al_below (w2.alloc (.cells #[.int .i64 0, .int .i64 64, .int .i64 65] 3)) (.cells (zin 0) 3))).drew.below (al_below ((w2.alloc (.cells #[.int .i64 0, .int .i64 64, .int .i64 65] 3)).alloc (.cells (zin 0) 3)).drew (.cells #[.slice (some ⟨w2.heap.size + 1, 0, none⟩) 0 0] 24)))
  have HM3 := hide (((R2.below (al_below w2 (.cells #[.int .i64 0, .int .i64 64, .int .i64 65] 3))).below (al_below (w2.alloc (.cells #[.int .i64 0, .int .i64 64, .int .i64 65] 3)) (.cells (zin 0) 3))).below (al_below ((w2.alloc (.cells #[.int .i64 0, .int .i64 64, .int .i64 65] 3)).alloc (.cells (zin 0) 3)) (.cells #[.slice (some ⟨w2.heap.size + 1, 0, none⟩) 0 0] 24))).drew
  have HM4 := hide (((R2.below (al_below w2 (.cells #[.int .i64 0, .int .i64 64, .int .i64 65] 3))).below (al_below (w2.alloc (.cells #[.int .i64 0, .int .i64 64, .int .i64 65] 3)) (.cells (zin 0) 3))).below (al_below ((w2.alloc (.cells #[.int .i64 0, .int .i64 64, .int .i64 65] 3)).alloc (.cells (zin 0) 3)) (.cells #[.slice (some ⟨w2.heap.size + 1, 0, none⟩) 0 0] 24)))
  have HO0 := hide HM0.out.m.o.b.head
  have hS0 := HM0.out.m.d.sz
  have HO1 := hide HM1.out.m.o.b.head
  have hS1 := HM1.out.m.d.sz
  have HO2 := hide HM2.out.m.o.b.head
  have hS2 := HM2.out.m.d.sz
  have HO3 := hide HM3.out.m.o.b.head
  have hS3 := HM3.out.m.d.sz
  have HO4 := hide HM4.out.m.o.b.head
  have hS4 := HM4.out.m.d.sz
  have HN0 := hide (cells_at ((w2.drew.alloc (.cells #[.int .i64 0, .int .i64 64, .int .i64 65] 3)).alloc (.cells (zin 0) 3)) (w2.heap.size + 1 + 1) _ 24 [.slice (some ⟨w2.heap.size + 1, 0, none⟩) 0 0] rfl (by simp [drw_sz]))
  have HN1 := hide (cells_at ((w2.alloc (.cells #[.int .i64 0, .int .i64 64, .int .i64 65] 3)).drew.alloc (.cells (zin 0) 3)) (w2.heap.size + 1 + 1) _ 24 [.slice (some ⟨w2.heap.size + 1, 0, none⟩) 0 0] rfl (by simp [drw_sz]))
  have HN2 := hide (cells_at ((w2.alloc (.cells #[.int .i64 0, .int .i64 64, .int .i64 65] 3)).alloc (.cells (zin 0) 3)).drew (w2.heap.size + 1 + 1) _ 24 [.slice (some ⟨w2.heap.size + 1, 0, none⟩) 0 0] rfl (by simp [drw_sz]))
  have HN3 := hide (cells_at ((w2.alloc (.cells #[.int .i64 0, .int .i64 64, .int .i64 65] 3)).alloc (.cells (zin 0) 3)) (w2.heap.size + 1 + 1) _ 24 [.slice (some ⟨w2.heap.size + 1, 0, none⟩) 0 0] rfl (by simp [drw_sz]))
  have HN4 := hide (cells_at ((w2.alloc (.cells #[.int .i64 0, .int .i64 64, .int .i64 65] 3)).alloc (.cells (zin 0) 3)) (w2.heap.size + 1 + 1) _ 24 [.slice (some ⟨w2.heap.size + 1, 0, none⟩) 0 0] rfl (by simp [drw_sz]))
  have ct : V.tmod 3 = 0 := by rw [Int.tmod_eq_emod_of_nonneg y0]; exact c1
  have hmk : ∀ W : World, (Instr.makeSlice 24 (.int .i64 0) (.int .i64 0)).run Try.prog W = .ok (.slice (some ⟨W.heap.size, 0, none⟩) 0 0) (W.alloc (.cells (zin 0) 3)) := fun W => mkI 0 (by omega) W
  have HX0 := hide ((og_zat (w2.drew.alloc (.cells #[.int .i64 0, .int .i64 64, .int .i64 65] 3)) (w2.heap.size + 1) w2.heap.size 0 (by simp [drw_sz]) (by omega) (by omega)).below (al_below ((w2.drew.alloc (.cells #[.int .i64 0, .int .i64 64, .int .i64 65] 3)).alloc (.cells (zin 0) 3)) (.cells #[.slice (some ⟨w2.heap.size + 1, 0, none⟩) 0 0] 24)))
  have HX1 := hide ((og_zat (w2.alloc (.cells #[.int .i64 0, .int .i64 64, .int .i64 65] 3)).drew (w2.heap.size + 1) w2.heap.size 0 (by simp [drw_sz]) (by omega) (by omega)).below (al_below ((w2.alloc (.cells #[.int .i64 0, .int .i64 64, .int .i64 65] 3)).drew.alloc (.cells (zin 0) 3)) (.cells #[.slice (some ⟨w2.heap.size + 1, 0, none⟩) 0 0] 24)))
  have HX2 := hide ((og_zat (w2.alloc (.cells #[.int .i64 0, .int .i64 64, .int .i64 65] 3)) (w2.heap.size + 1) w2.heap.size 0 (by simp [drw_sz]) (by omega) (by omega)).drew.below (al_below ((w2.alloc (.cells #[.int .i64 0, .int .i64 64, .int .i64 65] 3)).alloc (.cells (zin 0) 3)).drew (.cells #[.slice (some ⟨w2.heap.size + 1, 0, none⟩) 0 0] 24)))
  have HX3 := hide ((og_zat (w2.alloc (.cells #[.int .i64 0, .int .i64 64, .int .i64 65] 3)) (w2.heap.size + 1) w2.heap.size 0 (by simp [drw_sz]) (by omega) (by omega)).below (al_below ((w2.alloc (.cells #[.int .i64 0, .int .i64 64, .int .i64 65] 3)).alloc (.cells (zin 0) 3)) (.cells #[.slice (some ⟨w2.heap.size + 1, 0, none⟩) 0 0] 24))).drew
  have HX4 := hide ((og_zat (w2.alloc (.cells #[.int .i64 0, .int .i64 64, .int .i64 65] 3)) (w2.heap.size + 1) w2.heap.size 0 (by simp [drw_sz]) (by omega) (by omega)).below (al_below ((w2.alloc (.cells #[.int .i64 0, .int .i64 64, .int .i64 65] 3)).alloc (.cells (zin 0) 3)) (.cells #[.slice (some ⟨w2.heap.size + 1, 0, none⟩) 0 0] 24)))
  obtain ⟨iB, hiB, hz0iB, hz1iB, hz2iB⟩ := info_parts infoB
  have HR2 := hide R2
  clear R2
  go_wp2_with fail
  go_region_law (first
    | (refine step_append_lies _ rfl _ _ 25 rfl w.heap.size 24 iB (.slice none 0 0) 1 24 Try.underlying25 hiB hz0iB hz1iB hz2iB rfl (by decide) (.slice M.a2 M.bl.length M.c2) M.bl.length (M.bl.map fun B => Value.slice B.1 B.2.1 B.2.2.1) rfl (by first | exact HO0.out | exact HO1.out | exact HO2.out | exact HO3.out | exact HO4.out) ⟨w2.heap.size + 1 + 1, 0, none⟩ 1 1 [.slice (some ⟨w2.heap.size + 1, 0, none⟩) 0 0] rfl rfl (by first | exact HN0.out | exact HN1.out | exact HN2.out | exact HN3.out | exact HN4.out) (by intro u hu; simp [clI, clT, clX] at hu; first | (subst hu; rfl) | (rcases hu with rfl | rfl | rfl <;> rfl)) (by decide) (by unfold maxLen; omega) (by omega) (by first | exact hS0 | exact hS1 | exact hS2 | exact hS3 | exact hS4) _ rfl ?_; intro g4 c4 w5 hown hgr hat hlt4; obtain ⟨p9, q9⟩ := (show _ ∧ _ from (by first | exact HM0.out.cell4 HO0.out hgr (by decide) 2 (u := .slice M.a2 M.bl.length M.c2) rfl | exact HM1.out.cell4 HO1.out hgr (by decide) 2 (u := .slice M.a2 M.bl.length M.c2) rfl | exact HM2.out.cell4 HO2.out hgr (by decide) 2 (u := .slice M.a2 M.bl.length M.c2) rfl | exact HM3.out.cell4 HO3.out hgr (by decide) 2 (u := .slice M.a2 M.bl.length M.c2) rfl | exact HM4.out.cell4 HO4.out hgr (by decide) 2 (u := .slice M.a2 M.bl.length M.c2) rfl))))
  all_goals
    have HF := hide (show MR w (w5.setCell ⟨W.heap.size, 2, none⟩ (.slice (some ⟨g4, 0, none⟩) (M.bl.length + 1) c4)) r a n c zs (k + 1 + 1) W.heap.size (W.heap.size + 1) _ _ from (by first | exact MR.bankX (x := List.replicate 0 0) HR2.out HM0.out (List.length_replicate ..) HX0.out (Nat.le_refl _) hown hgr | exact MR.bankX (x := List.replicate 0 0) HR2.out HM1.out (List.length_replicate ..) HX1.out (Nat.le_refl _) hown hgr | exact MR.bankX (x := List.replicate 0 0) HR2.out HM2.out (List.length_replicate ..) HX2.out (Nat.le_refl _) hown hgr | exact MR.bankX (x := List.replicate 0 0) HR2.out HM3.out (List.length_replicate ..) HX3.out (Nat.le_refl _) hown hgr | exact MR.bankX (x := List.replicate 0 0) HR2.out HM4.out (List.length_replicate ..) HX4.out (Nat.le_refl _) hown hgr))
    clear HX0 HX1 HX2 HX3 HX4 HM0 HO0 HN0 hS0 HM1 HO1 HN1 hS1 HM2 HO2 HN2 hS2 HM3 HO3 HN3 hS3 HM4 HO4 HN4 hS4 hown hgr hat hlt4 p9 q9 p0 q0 p1 q1 p2 q2 p3 q3 HR2
    generalize w5.setCell ⟨W.heap.size, 2, none⟩ (.slice (some ⟨g4, 0, none⟩) (M.bl.length + 1) c4) = W5 at *
    obtain ⟨b0, b1, b2, b3, b4, b5, b6, b7⟩ := HF.out.m.box.eight'
    obtain ⟨f0, f1, f2, f3, f4, f5, f6, f7⟩ := HF.out.m.box.froz
    obtain ⟨r0, r1, r2, r3, r4, r5, r6, r7⟩ := z8_cells HF.out.res
    obtain ⟨s0, s1, s2, s3, s4, s5, s6, s7⟩ := HF.out.res.froz
    go_wp2
    refine spl_end HF.out.res rfl _ _ _ _ _ _ _ _ _ _ rfl ?_
    exact spl_fin HF.out _ _ _ _ _ _ _ _ (by simp [modV])
set_option maxHeartbeats 2000000 in
theorem sp2_1 (zs : List Int) (k : Nat) (K V : Int) (E1 : Hid (zs.getD k 0 = K)) (E2 : Hid (zs.getD (k + 1) 0 = V)) (z0 : 0 ≤ K) (z1 : K ≤ 255) (y0 : 0 ≤ V) (y1 : V ≤ 255) (P : PMod) (DP : DnR P) (c0 : K % 12 = 2) (c1 : V % 3 = 1) : SpFn zs k P { P with bl := P.bl ++ [List.replicate 64 0] } (k + 2) := by
  intro w W r a n c M D o ds
  have R0 := mr_spoil D o ds
  have hs0 := D.sz
  have hbl3 : M.bl.length ≤ 3 := by have := DP.b.1; rw [← o.bls, List.length_map] at this; exact this
  clear D o ds
  go_enter Try.func60, Try.ntmps60
  go_wp2_with fail
  refine (R0.next K E1).mono ?_
  rintro e w1 ⟨rfl, R1⟩
  clear R0
  go_wp2_with fail
  refine (R1.next V E2).mono ?_
  rintro e w2 ⟨rfl, R2⟩
  clear R1 E1 E2
  obtain ⟨p0, q0⟩ := R2.two 2 (.slice M.a2 M.bl.length M.c2) rfl
  obtain ⟨p1, q1⟩ := (R2.below (al_below w2 (.cells #[.int .i64 0, .int .i64 64, .int .i64 65] 3))).two 2 (.slice M.a2 M.bl.length M.c2) rfl
  obtain ⟨p2, q2⟩ := ((R2.below (al_below w2 (.cells #[.int .i64 0, .int .i64 64, .int .i64 65] 3))).below (al_below (w2.alloc (.cells #[.int .i64 0, .int .i64 64, .int .i64 65] 3)) (.cells (zin 64) 3))).two 2 (.slice M.a2 M.bl.length M.c2) rfl
  obtain ⟨p3, q3⟩ := (((R2.below (al_below w2 (.cells #[.int .i64 0, .int .i64 64, .int .i64 65] 3))).below (al_below (w2.alloc (.cells #[.int .i64 0, .int .i64 64, .int .i64 65] 3)) (.cells (zin 64) 3))).below (al_below ((w2.alloc (.cells #[.int .i64 0, .int .i64 64, .int .i64 65] 3)).alloc (.cells (zin 64) 3)) (.cells #[.slice (some ⟨w2.heap.size + 1, 0, none⟩) 64 64] 24))).two 2 (.slice M.a2 M.bl.length M.c2) rfl
  have HM0 := hide (((R2.drew.below (al_below w2.drew (.cells #[.int .i64 0, .int .i64 64, .int .i64 65] 3))).below (al_below (w2.drew.alloc (.cells #[.int .i64 0, .int .i64 64, .int .i64 65] 3)) (.cells (zin 64) 3))).below (al_below ((w2.drew.alloc (.cells #[.int .i64 0, .int .i64 64, .int .i64 65] 3)).alloc (.cells (zin 64) 3)) (.cells #[.slice (some ⟨w2.heap.size + 1, 0, none⟩) 64 64] 24)))
  have HM1 := hide (((R2.below (al_below w2 (.cells #[.int .i64 0, .int .i64 64, .int .i64 65] 3))).drew.below (al_below (w2.alloc (.cells #[.int .i64 0, .int .i64 64, .int .i64 65] 3)).drew (.cells (zin 64) 3))).below (al_below ((w2.alloc (.cells #[.int .i64 0, .int .i64 64, .int .i64 65] 3)).drew.alloc (.cells (zin 64) 3)) (.cells #[.slice (some ⟨w2.heap.size + 1, 0, none⟩) 64 64] 24)))
  have HM2 := hide (((R2.below (al_below w2 (.cells #[.int .i64 0, .int .i64 64, .int .i64 65] 3))).below (al_below (w2.alloc (.cells #[.int .i64 0, .int .i64 64, .int .i64 65] 3)) (.cells (zin 64) 3))).drew.below (al_below ((w2.alloc (.cells #[.int .i64 0, .int .i64 64, .int .i64 65] 3)).alloc (.cells (zin 64) 3)).drew (.cells #[.slice (some ⟨w2.heap.size + 1, 0, none⟩) 64 64] 24)))
  have HM3 := hide (((R2.below (al_below w2 (.cells #[.int .i64 0, .int .i64 64, .int .i64 65] 3))).below (al_below (w2.alloc (.cells #[.int .i64 0, .int .i64 64, .int .i64 65] 3)) (.cells (zin 64) 3))).below (al_below ((w2.alloc (.cells #[.int .i64 0, .int .i64 64, .int .i64 65] 3)).alloc (.cells (zin 64) 3)) (.cells #[.slice (some ⟨w2.heap.size + 1, 0, none⟩) 64 64] 24))).drew
  have HM4 := hide (((R2.below (al_below w2 (.cells #[.int .i64 0, .int .i64 64, .int .i64 65] 3))).below (al_below (w2.alloc (.cells #[.int .i64 0, .int .i64 64, .int .i64 65] 3)) (.cells (zin 64) 3))).below (al_below ((w2.alloc (.cells #[.int .i64 0, .int .i64 64, .int .i64 65] 3)).alloc (.cells (zin 64) 3)) (.cells #[.slice (some ⟨w2.heap.size + 1, 0, none⟩) 64 64] 24)))
  have HO0 := hide HM0.out.m.o.b.head
  have hS0 := HM0.out.m.d.sz
  have HO1 := hide HM1.out.m.o.b.head
  have hS1 := HM1.out.m.d.sz
  have HO2 := hide HM2.out.m.o.b.head
  have hS2 := HM2.out.m.d.sz
  have HO3 := hide HM3.out.m.o.b.head
  have hS3 := HM3.out.m.d.sz
  have HO4 := hide HM4.out.m.o.b.head
  have hS4 := HM4.out.m.d.sz
  have HN0 := hide (cells_at ((w2.drew.alloc (.cells #[.int .i64 0, .int .i64 64, .int .i64 65] 3)).alloc (.cells (zin 64) 3)) (w2.heap.size + 1 + 1) _ 24 [.slice (some ⟨w2.heap.size + 1, 0, none⟩) 64 64] rfl (by simp [drw_sz]))
  have HN1 := hide (cells_at ((w2.alloc (.cells #[.int .i64 0, .int .i64 64, .int .i64 65] 3)).drew.alloc (.cells (zin 64) 3)) (w2.heap.size + 1 + 1) _ 24 [.slice (some ⟨w2.heap.size + 1, 0, none⟩) 64 64] rfl (by simp [drw_sz]))
  have HN2 := hide (cells_at ((w2.alloc (.cells #[.int .i64 0, .int .i64 64, .int .i64 65] 3)).alloc (.cells (zin 64) 3)).drew (w2.heap.size + 1 + 1) _ 24 [.slice (some ⟨w2.heap.size + 1, 0, none⟩) 64 64] rfl (by simp [drw_sz]))
  have HN3 := hide (cells_at ((w2.alloc (.cells #[.int .i64 0, .int .i64 64, .int .i64 65] 3)).alloc (.cells (zin 64) 3)) (w2.heap.size + 1 + 1) _ 24 [.slice (some ⟨w2.heap.size + 1, 0, none⟩) 64 64] rfl (by simp [drw_sz]))
  have HN4 := hide (cells_at ((w2.alloc (.cells #[.int .i64 0, .int .i64 64, .int .i64 65] 3)).alloc (.cells (zin 64) 3)) (w2.heap.size + 1 + 1) _ 24 [.slice (some ⟨w2.heap.size + 1, 0, none⟩) 64 64] rfl (by simp [drw_sz]))
  have ct : V.tmod 3 = 1 := by rw [Int.tmod_eq_emod_of_nonneg y0]; exact c1
  have hmk : ∀ W : World, (Instr.makeSlice 24 (.int .i64 64) (.int .i64 64)).run Try.prog W = .ok (.slice (some ⟨W.heap.size, 0, none⟩) 64 64) (W.alloc (.cells (zin 64) 3)) := fun W => mkI 64 (by omega) W
  have HX0 := hide ((og_zat (w2.drew.alloc (.cells #[.int .i64 0, .int .i64 64, .int .i64 65] 3)) (w2.heap.size + 1) w2.heap.size 64 (by simp [drw_sz]) (by omega) (by omega)).below (al_below ((w2.drew.alloc (.cells #[.int .i64 0, .int .i64 64, .int .i64 65] 3)).alloc (.cells (zin 64) 3)) (.cells #[.slice (some ⟨w2.heap.size + 1, 0, none⟩) 64 64] 24)))
  have HX1 := hide ((og_zat (w2.alloc (.cells #[.int .i64 0, .int .i64 64, .int .i64 65] 3)).drew (w2.heap.size + 1) w2.heap.size 64 (by simp [drw_sz]) (by omega) (by omega)).below (al_below ((w2.alloc (.cells #[.int .i64 0, .int .i64 64, .int .i64 65] 3)).drew.alloc (.cells (zin 64) 3)) (.cells #[.slice (some ⟨w2.heap.size + 1, 0, none⟩) 64 64] 24)))
  have HX2 := hide ((og_zat (w2.alloc (.cells #[.int .i64 0, .int .i64 64, .int .i64 65] 3)) (w2.heap.size + 1) w2.heap.size 64 (by simp [drw_sz]) (by omega) (by omega)).drew.below (al_below ((w2.alloc (.cells #[.int .i64 0, .int .i64 64, .int .i64 65] 3)).alloc (.cells (zin 64) 3)).drew (.cells #[.slice (some ⟨w2.heap.size + 1, 0, none⟩) 64 64] 24)))
  have HX3 := hide ((og_zat (w2.alloc (.cells #[.int .i64 0, .int .i64 64, .int .i64 65] 3)) (w2.heap.size + 1) w2.heap.size 64 (by simp [drw_sz]) (by omega) (by omega)).below (al_below ((w2.alloc (.cells #[.int .i64 0, .int .i64 64, .int .i64 65] 3)).alloc (.cells (zin 64) 3)) (.cells #[.slice (some ⟨w2.heap.size + 1, 0, none⟩) 64 64] 24))).drew
  have HX4 := hide ((og_zat (w2.alloc (.cells #[.int .i64 0, .int .i64 64, .int .i64 65] 3)) (w2.heap.size + 1) w2.heap.size 64 (by simp [drw_sz]) (by omega) (by omega)).below (al_below ((w2.alloc (.cells #[.int .i64 0, .int .i64 64, .int .i64 65] 3)).alloc (.cells (zin 64) 3)) (.cells #[.slice (some ⟨w2.heap.size + 1, 0, none⟩) 64 64] 24)))
  obtain ⟨iB, hiB, hz0iB, hz1iB, hz2iB⟩ := info_parts infoB
  have HR2 := hide R2
  clear R2
  go_wp2_with fail
  go_region_law (first
    | (refine step_append_lies _ rfl _ _ 25 rfl w.heap.size 24 iB (.slice none 0 0) 1 24 Try.underlying25 hiB hz0iB hz1iB hz2iB rfl (by decide) (.slice M.a2 M.bl.length M.c2) M.bl.length (M.bl.map fun B => Value.slice B.1 B.2.1 B.2.2.1) rfl (by first | exact HO0.out | exact HO1.out | exact HO2.out | exact HO3.out | exact HO4.out) ⟨w2.heap.size + 1 + 1, 0, none⟩ 1 1 [.slice (some ⟨w2.heap.size + 1, 0, none⟩) 64 64] rfl rfl (by first | exact HN0.out | exact HN1.out | exact HN2.out | exact HN3.out | exact HN4.out) (by intro u hu; simp [clI, clT, clX] at hu; first | (subst hu; rfl) | (rcases hu with rfl | rfl | rfl <;> rfl)) (by decide) (by unfold maxLen; omega) (by omega) (by first | exact hS0 | exact hS1 | exact hS2 | exact hS3 | exact hS4) _ rfl ?_; intro g4 c4 w5 hown hgr hat hlt4; obtain ⟨p9, q9⟩ := (show _ ∧ _ from (by first | exact HM0.out.cell4 HO0.out hgr (by decide) 2 (u := .slice M.a2 M.bl.length M.c2) rfl | exact HM1.out.cell4 HO1.out hgr (by decide) 2 (u := .slice M.a2 M.bl.length M.c2) rfl | exact HM2.out.cell4 HO2.out hgr (by decide) 2 (u := .slice M.a2 M.bl.length M.c2) rfl | exact HM3.out.cell4 HO3.out hgr (by decide) 2 (u := .slice M.a2 M.bl.length M.c2) rfl | exact HM4.out.cell4 HO4.out hgr (by decide) 2 (u := .slice M.a2 M.bl.length M.c2) rfl))))
  all_goals
    have HF := hide (show MR w (w5.setCell ⟨W.heap.size, 2, none⟩ (.slice (some ⟨g4, 0, none⟩) (M.bl.length + 1) c4)) r a n c zs (k + 1 + 1) W.heap.size (W.heap.size + 1) _ _ from (by first | exact MR.bankX (x := List.replicate 64 0) HR2.out HM0.out (List.length_replicate ..) HX0.out (Nat.le_refl _) hown hgr | exact MR.bankX (x := List.replicate 64 0) HR2.out HM1.out (List.length_replicate ..) HX1.out (Nat.le_refl _) hown hgr | exact MR.bankX (x := List.replicate 64 0) HR2.out HM2.out (List.length_replicate ..) HX2.out (Nat.le_refl _) hown hgr | exact MR.bankX (x := List.replicate 64 0) HR2.out HM3.out (List.length_replicate ..) HX3.out (Nat.le_refl _) hown hgr | exact MR.bankX (x := List.replicate 64 0) HR2.out HM4.out (List.length_replicate ..) HX4.out (Nat.le_refl _) hown hgr))
    clear HX0 HX1 HX2 HX3 HX4 HM0 HO0 HN0 hS0 HM1 HO1 HN1 hS1 HM2 HO2 HN2 hS2 HM3 HO3 HN3 hS3 HM4 HO4 HN4 hS4 hown hgr hat hlt4 p9 q9 p0 q0 p1 q1 p2 q2 p3 q3 HR2
    generalize w5.setCell ⟨W.heap.size, 2, none⟩ (.slice (some ⟨g4, 0, none⟩) (M.bl.length + 1) c4) = W5 at *
    obtain ⟨b0, b1, b2, b3, b4, b5, b6, b7⟩ := HF.out.m.box.eight'
    obtain ⟨f0, f1, f2, f3, f4, f5, f6, f7⟩ := HF.out.m.box.froz
    obtain ⟨r0, r1, r2, r3, r4, r5, r6, r7⟩ := z8_cells HF.out.res
    obtain ⟨s0, s1, s2, s3, s4, s5, s6, s7⟩ := HF.out.res.froz
    go_wp2
    refine spl_end HF.out.res rfl _ _ _ _ _ _ _ _ _ _ rfl ?_
    exact spl_fin HF.out _ _ _ _ _ _ _ _ (by simp [modV])
set_option maxHeartbeats 2000000 in
theorem sp2_2 (zs : List Int) (k : Nat) (K V : Int) (E1 : Hid (zs.getD k 0 = K)) (E2 : Hid (zs.getD (k + 1) 0 = V)) (z0 : 0 ≤ K) (z1 : K ≤ 255) (y0 : 0 ≤ V) (y1 : V ≤ 255) (P : PMod) (DP : DnR P) (c0 : K % 12 = 2) (c1 : V % 3 = 2) : SpFn zs k P { P with bl := P.bl ++ [List.replicate 65 0] } (k + 2) := by
  intro w W r a n c M D o ds
  have R0 := mr_spoil D o ds
  have hs0 := D.sz
  have hbl3 : M.bl.length ≤ 3 := by have := DP.b.1; rw [← o.bls, List.length_map] at this; exact this
  clear D o ds
  go_enter Try.func60, Try.ntmps60
  go_wp2_with fail
  refine (R0.next K E1).mono ?_
  rintro e w1 ⟨rfl, R1⟩
  clear R0
  go_wp2_with fail
  refine (R1.next V E2).mono ?_
  rintro e w2 ⟨rfl, R2⟩
  clear R1 E1 E2
  obtain ⟨p0, q0⟩ := R2.two 2 (.slice M.a2 M.bl.length M.c2) rfl
  obtain ⟨p1, q1⟩ := (R2.below (al_below w2 (.cells #[.int .i64 0, .int .i64 64, .int .i64 65] 3))).two 2 (.slice M.a2 M.bl.length M.c2) rfl
  obtain ⟨p2, q2⟩ := ((R2.below (al_below w2 (.cells #[.int .i64 0, .int .i64 64, .int .i64 65] 3))).below (al_below (w2.alloc (.cells #[.int .i64 0, .int .i64 64, .int .i64 65] 3)) (.cells (zin 65) 3))).two 2 (.slice M.a2 M.bl.length M.c2) rfl
  obtain ⟨p3, q3⟩ := (((R2.below (al_below w2 (.cells #[.int .i64 0, .int .i64 64, .int .i64 65] 3))).below (al_below (w2.alloc (.cells #[.int .i64 0, .int .i64 64, .int .i64 65] 3)) (.cells (zin 65) 3))).below (al_below ((w2.alloc (.cells #[.int .i64 0, .int .i64 64, .int .i64 65] 3)).alloc (.cells (zin 65) 3)) (.cells #[.slice (some ⟨w2.heap.size + 1, 0, none⟩) 65 65] 24))).two 2 (.slice M.a2 M.bl.length M.c2) rfl
  have HM0 := hide (((R2.drew.below (al_below w2.drew (.cells #[.int .i64 0, .int .i64 64, .int .i64 65] 3))).below (al_below (w2.drew.alloc (.cells #[.int .i64 0, .int .i64 64, .int .i64 65] 3)) (.cells (zin 65) 3))).below (al_below ((w2.drew.alloc (.cells #[.int .i64 0, .int .i64 64, .int .i64 65] 3)).alloc (.cells (zin 65) 3)) (.cells #[.slice (some ⟨w2.heap.size + 1, 0, none⟩) 65 65] 24)))
  have HM1 := hide (((R2.below (al_below w2 (.cells #[.int .i64 0, .int .i64 64, .int .i64 65] 3))).drew.below (al_below (w2.alloc (.cells #[.int .i64 0, .int .i64 64, .int .i64 65] 3)).drew (.cells (zin 65) 3))).below (al_below ((w2.alloc (.cells #[.int .i64 0, .int .i64 64, .int .i64 65] 3)).drew.alloc (.cells (zin 65) 3)) (.cells #[.slice (some ⟨w2.heap.size + 1, 0, none⟩) 65 65] 24)))
  have HM2 := hide (((R2.below (al_below w2 (.cells #[.int .i64 0, .int .i64 64, .int .i64 65] 3))).below (al_below (w2.alloc (.cells #[.int .i64 0, .int .i64 64, .int .i64 65] 3)) (.cells (zin 65) 3))).drew.below (al_below ((w2.alloc (.cells #[.int .i64 0, .int .i64 64, .int .i64 65] 3)).alloc (.cells (zin 65) 3)).drew (.cells #[.slice (some ⟨w2.heap.size + 1, 0, none⟩) 65 65] 24)))
  have HM3 := hide (((R2.below (al_below w2 (.cells #[.int .i64 0, .int .i64 64, .int .i64 65] 3))).below (al_below (w2.alloc (.cells #[.int .i64 0, .int .i64 64, .int .i64 65] 3)) (.cells (zin 65) 3))).below (al_below ((w2.alloc (.cells #[.int .i64 0, .int .i64 64, .int .i64 65] 3)).alloc (.cells (zin 65) 3)) (.cells #[.slice (some ⟨w2.heap.size + 1, 0, none⟩) 65 65] 24))).drew
  have HM4 := hide (((R2.below (al_below w2 (.cells #[.int .i64 0, .int .i64 64, .int .i64 65] 3))).below (al_below (w2.alloc (.cells #[.int .i64 0, .int .i64 64, .int .i64 65] 3)) (.cells (zin 65) 3))).below (al_below ((w2.alloc (.cells #[.int .i64 0, .int .i64 64, .int .i64 65] 3)).alloc (.cells (zin 65) 3)) (.cells #[.slice (some ⟨w2.heap.size + 1, 0, none⟩) 65 65] 24)))
  have HO0 := hide HM0.out.m.o.b.head
  have hS0 := HM0.out.m.d.sz
  have HO1 := hide HM1.out.m.o.b.head
  have hS1 := HM1.out.m.d.sz
  have HO2 := hide HM2.out.m.o.b.head
  have hS2 := HM2.out.m.d.sz
  have HO3 := hide HM3.out.m.o.b.head
  have hS3 := HM3.out.m.d.sz
  have HO4 := hide HM4.out.m.o.b.head
  have hS4 := HM4.out.m.d.sz
  have HN0 := hide (cells_at ((w2.drew.alloc (.cells #[.int .i64 0, .int .i64 64, .int .i64 65] 3)).alloc (.cells (zin 65) 3)) (w2.heap.size + 1 + 1) _ 24 [.slice (some ⟨w2.heap.size + 1, 0, none⟩) 65 65] rfl (by simp [drw_sz]))
  have HN1 := hide (cells_at ((w2.alloc (.cells #[.int .i64 0, .int .i64 64, .int .i64 65] 3)).drew.alloc (.cells (zin 65) 3)) (w2.heap.size + 1 + 1) _ 24 [.slice (some ⟨w2.heap.size + 1, 0, none⟩) 65 65] rfl (by simp [drw_sz]))
  have HN2 := hide (cells_at ((w2.alloc (.cells #[.int .i64 0, .int .i64 64, .int .i64 65] 3)).alloc (.cells (zin 65) 3)).drew (w2.heap.size + 1 + 1) _ 24 [.slice (some ⟨w2.heap.size + 1, 0, none⟩) 65 65] rfl (by simp [drw_sz]))
  have HN3 := hide (cells_at ((w2.alloc (.cells #[.int .i64 0, .int .i64 64, .int .i64 65] 3)).alloc (.cells (zin 65) 3)) (w2.heap.size + 1 + 1) _ 24 [.slice (some ⟨w2.heap.size + 1, 0, none⟩) 65 65] rfl (by simp [drw_sz]))
  have HN4 := hide (cells_at ((w2.alloc (.cells #[.int .i64 0, .int .i64 64, .int .i64 65] 3)).alloc (.cells (zin 65) 3)) (w2.heap.size + 1 + 1) _ 24 [.slice (some ⟨w2.heap.size + 1, 0, none⟩) 65 65] rfl (by simp [drw_sz]))
  have ct : V.tmod 3 = 2 := by rw [Int.tmod_eq_emod_of_nonneg y0]; exact c1
  have hmk : ∀ W : World, (Instr.makeSlice 24 (.int .i64 65) (.int .i64 65)).run Try.prog W = .ok (.slice (some ⟨W.heap.size, 0, none⟩) 65 65) (W.alloc (.cells (zin 65) 3)) := fun W => mkI 65 (by omega) W
  have HX0 := hide ((og_zat (w2.drew.alloc (.cells #[.int .i64 0, .int .i64 64, .int .i64 65] 3)) (w2.heap.size + 1) w2.heap.size 65 (by simp [drw_sz]) (by omega) (by omega)).below (al_below ((w2.drew.alloc (.cells #[.int .i64 0, .int .i64 64, .int .i64 65] 3)).alloc (.cells (zin 65) 3)) (.cells #[.slice (some ⟨w2.heap.size + 1, 0, none⟩) 65 65] 24)))
  have HX1 := hide ((og_zat (w2.alloc (.cells #[.int .i64 0, .int .i64 64, .int .i64 65] 3)).drew (w2.heap.size + 1) w2.heap.size 65 (by simp [drw_sz]) (by omega) (by omega)).below (al_below ((w2.alloc (.cells #[.int .i64 0, .int .i64 64, .int .i64 65] 3)).drew.alloc (.cells (zin 65) 3)) (.cells #[.slice (some ⟨w2.heap.size + 1, 0, none⟩) 65 65] 24)))
  have HX2 := hide ((og_zat (w2.alloc (.cells #[.int .i64 0, .int .i64 64, .int .i64 65] 3)) (w2.heap.size + 1) w2.heap.size 65 (by simp [drw_sz]) (by omega) (by omega)).drew.below (al_below ((w2.alloc (.cells #[.int .i64 0, .int .i64 64, .int .i64 65] 3)).alloc (.cells (zin 65) 3)).drew (.cells #[.slice (some ⟨w2.heap.size + 1, 0, none⟩) 65 65] 24)))
  have HX3 := hide ((og_zat (w2.alloc (.cells #[.int .i64 0, .int .i64 64, .int .i64 65] 3)) (w2.heap.size + 1) w2.heap.size 65 (by simp [drw_sz]) (by omega) (by omega)).below (al_below ((w2.alloc (.cells #[.int .i64 0, .int .i64 64, .int .i64 65] 3)).alloc (.cells (zin 65) 3)) (.cells #[.slice (some ⟨w2.heap.size + 1, 0, none⟩) 65 65] 24))).drew
  have HX4 := hide ((og_zat (w2.alloc (.cells #[.int .i64 0, .int .i64 64, .int .i64 65] 3)) (w2.heap.size + 1) w2.heap.size 65 (by simp [drw_sz]) (by omega) (by omega)).below (al_below ((w2.alloc (.cells #[.int .i64 0, .int .i64 64, .int .i64 65] 3)).alloc (.cells (zin 65) 3)) (.cells #[.slice (some ⟨w2.heap.size + 1, 0, none⟩) 65 65] 24)))
  obtain ⟨iB, hiB, hz0iB, hz1iB, hz2iB⟩ := info_parts infoB
  have HR2 := hide R2
  clear R2
  go_wp2_with fail
  go_region_law (first
    | (refine step_append_lies _ rfl _ _ 25 rfl w.heap.size 24 iB (.slice none 0 0) 1 24 Try.underlying25 hiB hz0iB hz1iB hz2iB rfl (by decide) (.slice M.a2 M.bl.length M.c2) M.bl.length (M.bl.map fun B => Value.slice B.1 B.2.1 B.2.2.1) rfl (by first | exact HO0.out | exact HO1.out | exact HO2.out | exact HO3.out | exact HO4.out) ⟨w2.heap.size + 1 + 1, 0, none⟩ 1 1 [.slice (some ⟨w2.heap.size + 1, 0, none⟩) 65 65] rfl rfl (by first | exact HN0.out | exact HN1.out | exact HN2.out | exact HN3.out | exact HN4.out) (by intro u hu; simp [clI, clT, clX] at hu; first | (subst hu; rfl) | (rcases hu with rfl | rfl | rfl <;> rfl)) (by decide) (by unfold maxLen; omega) (by omega) (by first | exact hS0 | exact hS1 | exact hS2 | exact hS3 | exact hS4) _ rfl ?_; intro g4 c4 w5 hown hgr hat hlt4; obtain ⟨p9, q9⟩ := (show _ ∧ _ from (by first | exact HM0.out.cell4 HO0.out hgr (by decide) 2 (u := .slice M.a2 M.bl.length M.c2) rfl | exact HM1.out.cell4 HO1.out hgr (by decide) 2 (u := .slice M.a2 M.bl.length M.c2) rfl | exact HM2.out.cell4 HO2.out hgr (by decide) 2 (u := .slice M.a2 M.bl.length M.c2) rfl | exact HM3.out.cell4 HO3.out hgr (by decide) 2 (u := .slice M.a2 M.bl.length M.c2) rfl | exact HM4.out.cell4 HO4.out hgr (by decide) 2 (u := .slice M.a2 M.bl.length M.c2) rfl))))
  all_goals
    have HF := hide (show MR w (w5.setCell ⟨W.heap.size, 2, none⟩ (.slice (some ⟨g4, 0, none⟩) (M.bl.length + 1) c4)) r a n c zs (k + 1 + 1) W.heap.size (W.heap.size + 1) _ _ from (by first | exact MR.bankX (x := List.replicate 65 0) HR2.out HM0.out (List.length_replicate ..) HX0.out (Nat.le_refl _) hown hgr | exact MR.bankX (x := List.replicate 65 0) HR2.out HM1.out (List.length_replicate ..) HX1.out (Nat.le_refl _) hown hgr | exact MR.bankX (x := List.replicate 65 0) HR2.out HM2.out (List.length_replicate ..) HX2.out (Nat.le_refl _) hown hgr | exact MR.bankX (x := List.replicate 65 0) HR2.out HM3.out (List.length_replicate ..) HX3.out (Nat.le_refl _) hown hgr | exact MR.bankX (x := List.replicate 65 0) HR2.out HM4.out (List.length_replicate ..) HX4.out (Nat.le_refl _) hown hgr))
    clear HX0 HX1 HX2 HX3 HX4 HM0 HO0 HN0 hS0 HM1 HO1 HN1 hS1 HM2 HO2 HN2 hS2 HM3 HO3 HN3 hS3 HM4 HO4 HN4 hS4 hown hgr hat hlt4 p9 q9 p0 q0 p1 q1 p2 q2 p3 q3 HR2
    generalize w5.setCell ⟨W.heap.size, 2, none⟩ (.slice (some ⟨g4, 0, none⟩) (M.bl.length + 1) c4) = W5 at *
    obtain ⟨b0, b1, b2, b3, b4, b5, b6, b7⟩ := HF.out.m.box.eight'
    obtain ⟨f0, f1, f2, f3, f4, f5, f6, f7⟩ := HF.out.m.box.froz
    obtain ⟨r0, r1, r2, r3, r4, r5, r6, r7⟩ := z8_cells HF.out.res
    obtain ⟨s0, s1, s2, s3, s4, s5, s6, s7⟩ := HF.out.res.froz
    go_wp2
    refine spl_end HF.out.res rfl _ _ _ _ _ _ _ _ _ _ rfl ?_
    exact spl_fin HF.out _ _ _ _ _ _ _ _ (by simp [modV])
end Go.Proofs.Ytngdgogjlpjjpad
