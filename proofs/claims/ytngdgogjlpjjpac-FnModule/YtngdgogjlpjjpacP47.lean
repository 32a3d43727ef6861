import Derived.Test.YtngdgogjlpjjpacP40
namespace Go.Proofs.Ytngdgogjlpjjpac
open Go.RowKit
set_option linter.unusedVariables false
set_option linter.unusedSimpArgs false
set_option maxRecDepth 100000
set_option maxHeartbeats 2000000 in
theorem sp11_1 (zs : List Int) (k : Nat) (K V : Int) (E1 : Hid (zs.getD k 0 = K)) (E2 : Hid (zs.getD (k + 1) 0 = V)) (z0 : 0 ≤ K) (z1 : K ≤ 255) (y0 : 0 ≤ V) (y1 : V ≤ 255) (P : PMod) (DP : DnR P) (c0 : K % 12 = 11) (c1 : V % 2 = 1) : SpFn zs k P { P with bl := [[0], [0], [0], [0]] ++ [[0]] } (k + 2) := by
  intro w W r a n c M D o ds
  have R0 := mr_spoil D o ds
  have hs0 := D.sz
  clear D o ds
  go_enter Try.func122, Try.ntmps122
  go_wp2_with fail
  refine (R0.next K E1).mono ?_
  rintro e w1 ⟨rfl, R1⟩
  clear R0
  go_wp2_with fail
  refine (R1.next V E2).mono ?_
  rintro e w2 ⟨rfl, R2⟩
  clear R1 E1 E2
  have R3 := (((((R2.below (al_below w2 (.cells #[.int .i64 0] 3))).below (al_below (w2.alloc (.cells #[.int .i64 0] 3)) (.cells #[.int .i64 0] 3))).below (al_below ((w2.alloc (.cells #[.int .i64 0] 3)).alloc (.cells #[.int .i64 0] 3)) (.cells #[.int .i64 0] 3))).below (al_below (((w2.alloc (.cells #[.int .i64 0] 3)).alloc (.cells #[.int .i64 0] 3)).alloc (.cells #[.int .i64 0] 3)) (.cells #[.int .i64 0] 3))).below (al_below ((((w2.alloc (.cells #[.int .i64 0] 3)).alloc (.cells #[.int .i64 0] 3)).alloc (.cells #[.int .i64 0] 3)).alloc (.cells #[.int .i64 0] 3)) (.cells #[.slice (some ⟨w2.heap.size, 0, none⟩) 1 1, .slice (some ⟨w2.heap.size + 1, 0, none⟩) 1 1, .slice (some ⟨w2.heap.size + 1 + 1, 0, none⟩) 1 1, .slice (some ⟨w2.heap.size + 1 + 1 + 1, 0, none⟩) 1 1] 46)))
  obtain ⟨b0, b1, b2, b3, b4, b5, b6, b7⟩ := R3.m.box.eight'
  obtain ⟨f0, f1, f2, f3, f4, f5, f6, f7⟩ := R3.m.box.froz
  obtain ⟨r0, r1, r2, r3, r4, r5, r6, r7⟩ := z8_cells R3.res
  obtain ⟨s0, s1, s2, s3, s4, s5, s6, s7⟩ := R3.res.froz
  have R5 := MR.newbanks R2 R3 (four_banks w2) rfl [[0], [0], [0], [0]] rfl
  have hw5 : ∃ W5, W5 = (((((w2.alloc (.cells #[.int .i64 0] 3)).alloc (.cells #[.int .i64 0] 3)).alloc (.cells #[.int .i64 0] 3)).alloc (.cells #[.int .i64 0] 3)).alloc (.cells #[.slice (some ⟨w2.heap.size, 0, none⟩) 1 1, .slice (some ⟨w2.heap.size + 1, 0, none⟩) 1 1, .slice (some ⟨w2.heap.size + 1 + 1, 0, none⟩) 1 1, .slice (some ⟨w2.heap.size + 1 + 1 + 1, 0, none⟩) 1 1] 46)).setCell ⟨W.heap.size, 2, none⟩ (.slice (some ⟨w2.heap.size + 1 + 1 + 1 + 1, 0, none⟩) 4 4) := ⟨_, rfl⟩
  obtain ⟨W5, hW5⟩ := hw5
  have hz5 : W5.heap.size = w2.heap.size + 1 + 1 + 1 + 1 + 1 := by rw [hW5]; simp [size_setCell]
  rw [← hW5] at R5
  have HR5 := hide R5
  have R6 := R5.below (al_below W5 (.cells #[.int .i64 0] 3))
  have R7 := hide (R6.below (al_below (W5.alloc (.cells #[.int .i64 0] 3)) (.cells #[.slice (some ⟨W5.heap.size, 0, none⟩) 1 1] 46)))
  have HOX := hide ((og_one W5 W5.heap.size W5.heap.size rfl (Nat.le_refl _)).below (al_below (W5.alloc (.cells #[.int .i64 0] 3)) (.cells #[.slice (some ⟨W5.heap.size, 0, none⟩) 1 1] 46)))
  have HOW := hide R7.out.m.o.b.head
  have HNW := hide (cells_at (W5.alloc (.cells #[.int .i64 0] 3)) (W5.heap.size + 1) _ 46 [.slice (some ⟨W5.heap.size, 0, none⟩) 1 1] rfl (by simp))
  have HSZ := hide R7.out.m.d.sz
  obtain ⟨x2, y2⟩ := R5.two 2 (.slice (some ⟨w2.heap.size + 1 + 1 + 1 + 1, 0, none⟩) 4 4) rfl
  obtain ⟨iB, hiB, hz0iB, hz1iB, hz2iB⟩ := info_parts infoB
  clear R2 R3 R5 R6
  rw [hz5] at HOX HNW HOW R7 HSZ
  rw [hW5] at HOX HNW HOW R7 HSZ x2 y2 HR5
  go_wp2_with (at_builtin; refine wpList_append_lies _ rfl _ _ 47 rfl w.heap.size 46 iB (.slice none 0 0) 1 24 Try.underlying47 hiB hz0iB hz1iB hz2iB rfl (by decide) (.slice (some ⟨w2.heap.size + 1 + 1 + 1 + 1, 0, none⟩) 4 4) 4 _ rfl HOW.out ⟨w2.heap.size + 1 + 1 + 1 + 1 + 1 + 1, 0, none⟩ 1 1 [.slice (some ⟨w2.heap.size + 1 + 1 + 1 + 1 + 1, 0, none⟩) 1 1] rfl rfl HNW.out (by intro u hu; simp at hu; subst hu; rfl) (by decide) (by unfold maxLen; omega) (by omega) HSZ.out _ rfl ?_; intro g4 c4 w5 hown hgr hat hlt4; obtain ⟨p4, q4⟩ := R7.out.cell4 HOW.out hgr (by decide) 2 (u := .slice (some ⟨w2.heap.size + 1 + 1 + 1 + 1, 0, none⟩) 4 4) rfl; obtain ⟨b0, b1, b2, b3, b4, b5, b6, b7⟩ := (box_grown R7.out.m.box HOW.out hgr (by decide)).eight'; obtain ⟨r0, r1, r2, r3, r4, r5, r6, r7⟩ := z8_cells (box_grown R7.out.res HOW.out hgr (by decide)); obtain ⟨s0, s1, s2, s3, s4, s5, s6, s7⟩ := (box_grown R7.out.res HOW.out hgr (by decide)).froz)
  have HF := hide (MR.bankX (x := [0]) HR5.out R7.out rfl HOX.out (by simp [size_setCell]) hown hgr)
  refine spl_end HF.out.res rfl _ _ _ _ _ _ _ _ _ _ rfl ?_
  exact spl_fin HF.out _ _ _ _ _ _ _ _ (by simp [modV])
end Go.Proofs.Ytngdgogjlpjjpac
