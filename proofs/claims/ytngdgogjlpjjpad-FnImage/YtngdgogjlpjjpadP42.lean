import Derived.Lib.SmallJoins
import Derived.Test.YtngdgogjlpjjpadP23
import Derived.Test.YtngdgogjlpjjpadP33
import Derived.Test.YtngdgogjlpjjpadP41
namespace Go.Proofs.Ytngdgogjlpjjpad
open Go.RowKit
set_option linter.unusedVariables false
set_option linter.unusedSimpArgs false
set_option maxRecDepth 100000
set_option maxHeartbeats 2000000 in
theorem sp11_1 (zs : List Int) (k : Nat) (K V : Int) (E1 : Hid (zs.getD k 0 = K)) (E2 : Hid (zs.getD (k + 1) 0 = V)) (z0 : 0 ≤ K) (z1 : K ≤ 255) (y0 : 0 ≤ V) (y1 : V ≤ 255) (P : PMod) (DP : DnR P) (c0 : K % 12 = 11) (c1 : V % 2 = 1) : SpFn zs k P { P with bl := [[0], [0], [0], [0]] ++ [[0]] } (k + 2) := by
  intro w W r a n c M D o ds
  have R0 := mr_spoil D o ds
  have hs0 := D.sz
  clear D o ds
  go_enter Try.func60, Try.ntmps60
  go_wp2_with fail
  refine (R0.next K E1).mono ?_
  rintro e w1 ⟨rfl, R1⟩
  clear R0
  go_wp2_with fail
  refine (R1.next V E2).mono ?_
  rintro e w2 ⟨rfl, R2⟩
  clear R1 E1 E2
  have R3 := (((((R2.below (al_below w2 (.cells #[.int .i64 0] 3))).below (al_below (w2.alloc (.cells #[.int .i64 0] 3)) (.cells #[.int .i64 0] 3))).below (al_below ((w2.alloc (.cells #[.int .i64 0] 3)).alloc (.cells #[.int .i64 0] 3)) (.cells #[.int .i64 0] 3))).below (al_below (((w2.alloc (.cells #[.int .i64 0] 3)).alloc (.cells #[.int .i64 0] 3)).alloc (.cells #[.int .i64 0] 3)) (.cells #[.int .i64 0] 3))).below (al_below ((((w2.alloc (.cells #[.int .i64 0] 3)).alloc (.cells #[.int .i64 0] 3)).alloc (.cells #[.int .i64 0] 3)).alloc (.cells #[.int .i64 0] 3)) (.cells #[.slice (some ⟨w2.heap.size, 0, none⟩) 1 1, .slice (some ⟨w2.heap.size + 1, 0, none⟩) 1 1, .slice (some ⟨w2.heap.size + 1 + 1, 0, none⟩) 1 1, .slice (some ⟨w2.heap.size + 1 + 1 + 1, 0, none⟩) 1 1] 24)))
  obtain ⟨b0, b1, b2, b3, b4, b5, b6, b7⟩ := R3.m.box.eight'
  obtain ⟨f0, f1, f2, f3, f4, f5, f6, f7⟩ := R3.m.box.froz
  obtain ⟨r0, r1, r2, r3, r4, r5, r6, r7⟩ := z8_cells R3.res
  obtain ⟨s0, s1, s2, s3, s4, s5, s6, s7⟩ := R3.res.froz
  have R5 := MR.newbanks R2 R3 (four_banks w2) rfl [[0], [0], [0], [0]] rfl
  have hw5 : ∃ W5, W5 = (((((w2.alloc (.cells #[.int .i64 0] 3)).alloc (.cells #[.int .i64 0] 3)).alloc (.cells #[.int .i64 0] 3)).alloc (.cells #[.int .i64 0] 3)).alloc (.cells #[.slice (some ⟨w2.heap.size, 0, none⟩) 1 1, .slice (some ⟨w2.heap.size + 1, 0, none⟩) 1 1, .slice (some ⟨w2.heap.size + 1 + 1, 0, none⟩) 1 1, .slice (some ⟨w2.heap.size + 1 + 1 + 1, 0, none⟩) 1 1] 24)).setCell ⟨W.heap.size, 2, none⟩ (.slice (some ⟨w2.heap.size + 1 + 1 + 1 + 1, 0, none⟩) 4 4) := ⟨_, rfl⟩
  obtain ⟨W5, hW5⟩ := hw5
  have hz5 : W5.heap.size = w2.heap.size + 1 + 1 + 1 + 1 + 1 := by rw [hW5]; simp [size_setCell]
  rw [← hW5] at R5
  have HR5 := hide R5
  have R6 := R5.below (al_below W5 (.cells #[.int .i64 0] 3))
  have R7 := hide (R6.below (al_below (W5.alloc (.cells #[.int .i64 0] 3)) (.cells #[.slice (some ⟨W5.heap.size, 0, none⟩) 1 1] 24)))
  have HOX := hide ((og_one W5 W5.heap.size W5.heap.size rfl (Nat.le_refl _)).below (al_below (W5.alloc (.cells #[.int .i64 0] 3)) (.cells #[.slice (some ⟨W5.heap.size, 0, none⟩) 1 1] 24)))
  have HOW := hide R7.out.m.o.b.head
  have HNW := hide (cells_at (W5.alloc (.cells #[.int .i64 0] 3)) (W5.heap.size + 1) _ 24 [.slice (some ⟨W5.heap.size, 0, none⟩) 1 1] rfl (by simp))
  have HSZ := hide R7.out.m.d.sz
  obtain ⟨x2, y2⟩ := R5.two 2 (.slice (some ⟨w2.heap.size + 1 + 1 + 1 + 1, 0, none⟩) 4 4) rfl
  obtain ⟨iB, hiB, hz0iB, hz1iB, hz2iB⟩ := info_parts infoB
  clear R2 R3 R5 R6
  rw [hz5] at HOX HNW HOW R7 HSZ
  rw [hW5] at HOX HNW HOW R7 HSZ x2 y2 HR5
  go_wp2_with (at_builtin; refine wpList_append_lies _ rfl _ _ 25 rfl w.heap.size 24 iB (.slice none 0 0) 1 24 Try.underlying25 hiB hz0iB hz1iB hz2iB rfl (by decide) (.slice (some ⟨w2.heap.size + 1 + 1 + 1 + 1, 0, none⟩) 4 4) 4 _ rfl HOW.out ⟨w2.heap.size + 1 + 1 + 1 + 1 + 1 + 1, 0, none⟩ 1 1 [.slice (some ⟨w2.heap.size + 1 + 1 + 1 + 1 + 1, 0, none⟩) 1 1] rfl rfl HNW.out (by intro u hu; simp at hu; subst hu; rfl) (by decide) (by unfold maxLen; omega) (by omega) HSZ.out _ rfl ?_; intro g4 c4 w5 hown hgr hat hlt4; obtain ⟨p4, q4⟩ := R7.out.cell4 HOW.out hgr (by decide) 2 (u := .slice (some ⟨w2.heap.size + 1 + 1 + 1 + 1, 0, none⟩) 4 4) rfl; obtain ⟨b0, b1, b2, b3, b4, b5, b6, b7⟩ := (box_grown R7.out.m.box HOW.out hgr (by decide)).eight'; obtain ⟨r0, r1, r2, r3, r4, r5, r6, r7⟩ := z8_cells (box_grown R7.out.res HOW.out hgr (by decide)); obtain ⟨s0, s1, s2, s3, s4, s5, s6, s7⟩ := (box_grown R7.out.res HOW.out hgr (by decide)).froz)
  have HF := hide (MR.bankX (x := [0]) HR5.out R7.out rfl HOX.out (by simp [size_setCell]) hown hgr)
  refine spl_end HF.out.res rfl _ _ _ _ _ _ _ _ _ _ rfl ?_
  exact spl_fin HF.out _ _ _ _ _ _ _ _ (by simp [modV])
set_option maxHeartbeats 4000000 in
theorem iEncodeModule_any (nm : ByteArray) (ta : Option Addr) (tn tc : Nat) (tz : List Int) (ba : Option Addr) (bn bc : Nat) (bl : List Bk) (db : Nat) (dn dc : Nat) (dz : List Int) (bss : Int) (ra : Option Addr) (rn rc : Nat) (rz : List Int) (ia : Option Addr) (im ic : Nat) (ss : List ByteArray) (ea : Option Addr) (en ec : Nat) (es : List Ex) (w : World)
    (h : MD w nm ta tn tc tz ba bn bc bl (some ⟨db, 0, none⟩) dn dc dz bss ra rn rc rz ia im ic ss ea en ec es) (hv : mdo nm tn tz bn bl dn bss rn rz im ss en es = 0) :
    Calls Try.prog 8 #[.agg #[.string nm, .slice ta tn tc, .slice ba bn bc, .slice (some ⟨db, 0, none⟩) dn dc, .int .i64 bss, .slice ra rn rc, .slice ia im ic, .slice ea en ec]] w (EmPost w (encM nm tz bn bl dn dz bss rn rz im ss en es)) := by
  have V := vm_of_mdo h.b.1 hv
  have HOK := hide (fun w h => iModuleOk_any nm ta tn tc tz ba bn bc bl (some ⟨db, 0, none⟩) dn dc dz bss ra rn rc rz ia im ic ss ea en ec es w h)
  rw [hv] at HOK
  clear hv
  have HMO := hide (fun W g q c hI => module_any nm ta tn tc tz ba bn bc bl db dn dc dz bss ra rn rc rz ia im ic ss ea en ec es w W g q c h V hI)
  have k0 := Blk.new w #[.string nm, .slice ta tn tc, .slice ba bn bc, .slice (some ⟨db, 0, none⟩) dn dc, .int .i64 bss, .slice ra rn rc, .slice ia im ic, .slice ea en ec] 29
  have hB0 : Below w.heap.size w (w.alloc (.cells #[.string nm, .slice ta tn tc, .slice ba bn bc, .slice (some ⟨db, 0, none⟩) dn dc, .int .i64 bss, .slice ra rn rc, .slice ia im ic, .slice ea en ec] 29)) := (Below.refl _ _).alloc (Nat.le_refl _) _
  generalize encM nm tz bn bl dn dz bss rn rz im ss en es = out at *
  go_enter Try.func8, Try.ntmps8
  go_wp2_with fail
  refine (HOK.out _ (MD.below h hB0)).mono ?_
  rintro e w1 ⟨rfl, hb1⟩
  have k1 := k0.below hb1
  have hB1 := hB0.trans (hb1.mono (by simp))
  have hs1 := hB1.size
  obtain ⟨q0, q1, q2, q3, q4, q5, q6, q7⟩ := Blk.mod k1
  clear hb1 hB0 HOK k0
  have al1 : Below w1.heap.size w1 ((w1.alloc (.cells #[.int .u8 88, .int .u8 77] 5 (2, 3))).alloc (.cells #[.slice (some ⟨w1.heap.size, 0, none⟩) 2 2] 64)) := ((Below.refl _ _).alloc (Nat.le_refl _) _).alloc (by simp) _
  have k2 := k1.below al1
  have b2 := Blk.new (w1.alloc (.cells #[.int .u8 88, .int .u8 77] 5 (2, 3))) #[.slice (some ⟨w1.heap.size, 0, none⟩) 2 2] 64
  have s2 : BS ((w1.alloc (.cells #[.int .u8 88, .int .u8 77] 5 (2, 3))).alloc (.cells #[.slice (some ⟨w1.heap.size, 0, none⟩) 2 2] 64)) (some ⟨w1.heap.size, 0, none⟩) 2 2 [88, 77] := by
    refine BS.below (w := w1.alloc (.cells #[.int .u8 88, .int .u8 77] 5 (2, 3))) ?_ ((Below.refl _ _).alloc (Nat.le_refl _) _)
    refine ⟨rfl, by unfold maxLen; omega, ?_, fun _ => ⟨w1.heap.size, 0, rfl, fun i hi => ?_⟩, Nat.le_refl _⟩
    · intro z hz
      simp at hz
      omega
    · rw [Nat.zero_add, World.cell?_alloc_mark]
      match i, hi with
      | 0, _ => rfl
      | 1, _ => rfl
  have I2 : Iw w ((w1.alloc (.cells #[.int .u8 88, .int .u8 77] 5 (2, 3))).alloc (.cells #[.slice (some ⟨w1.heap.size, 0, none⟩) 2 2] 64)) (w1.heap.size + 1) w1.heap.size 2 2 [88, 77] := ⟨by simpa using b2, s2, .inr rfl, hB1.trans (al1.mono hs1), by omega⟩
  have HI2 := hide I2
  obtain ⟨p0, p1, p2, p3, p4, p5, p6, p7⟩ := Blk.mod k2
  clear I2 s2 b2 k2 al1
  have hcv := fun (W : World) => Lib.run_convert_bytes_const (P := Try.prog) W 22 5 #[.int .u8 88, .int .u8 77] 2 2 Try.underlying22 Try.underlying5
  go_wp2_with fail
  refine (HMO.out _ _ _ _ HI2.out).mono ?_
  rintro e w3 ⟨rfl, q, n, c, I3, O3, K3, hn4⟩
  have x0 := I3.box.cell 0
  simp at x0
  have HF := hide (And.intro O3 (And.intro I3.below (show out.length ≤ 40000 by rw [O3.bs.1]; omega)))
  clear I3 O3 K3 HI2 HMO p0 p1 p2 p3 p4 p5 p6 p7 q0 q1 q2 q3 q4 q5 q6 q7
  go_wp2
  go_ret
  exact ⟨_, _, _, rfl, HF.out.1, HF.out.2⟩
end Go.Proofs.Ytngdgogjlpjjpad
