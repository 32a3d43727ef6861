import Derived.Test.YtngdgogjlpjjpadGreatP09
import Derived.Test.YtngdgogjlpjjpadGreatP20
import Derived.Test.YtngdgogjlpjjpadGreatP22
import Derived.Test.YtngdgogjlpjjpadGreatP26
namespace Go.Proofs.YtngdgogjlpjjpadGreat
open Go.RowKit Classical
set_option linter.unusedVariables false
set_option linter.unusedSimpArgs false
set_option maxRecDepth 100000
set_option maxHeartbeats 2000000 in
theorem sp2_0 (zs:List Int) (k:Nat) (K V:Int) (E1:Hid (zs.getD k 0=K)) (E2:Hid (zs.getD (k+1) 0=V)) (z0:0≤K) (z1:K≤255) (y0:0≤V) (y1:V≤255) (P:PMod) (DP:DnR P) (c0:K % 12=2) (c1:V % 3=0):SpU zs k P { P with bl:=P.bl++[List.replicate 0 0] } (k+2):=by
 intro U w W r a n c M D o ds hU hR
 have R0:=mru_spoil D o ds hU hR
 have hs0:=D.sz
 have hbl3:M.bl.length≤3:=by have:=DP.b.1;rw [← o.bls,List.length_map] at this;exact this
 clear D o ds hU hR
 go_enter Tryz.func136,Tryz.ntmps136
 go_wp2_with fail
 refine (R0.next K E1).mono ?_
 rintro e w1 ⟨rfl,R1⟩
 clear R0
 go_wp2_with fail
 refine (R1.next V E2).mono ?_
 rintro e w2 ⟨rfl,R2⟩
 clear R1 E1 E2
 obtain ⟨p0,q0⟩:=R2.two 2 (.slice M.a2 M.bl.length M.c2) rfl
 obtain ⟨p1,q1⟩:=(R2.below (al_below w2 (.cells #[.int .i64 0,.int .i64 64,.int .i64 65] 3))).two 2 (.slice M.a2 M.bl.length M.c2) rfl
 obtain ⟨p2,q2⟩:=((R2.below (al_below w2 (.cells #[.int .i64 0,.int .i64 64,.int .i64 65] 3))).below (al_below (w2.alloc (.cells #[.int .i64 0,.int .i64 64,.int .i64 65] 3)) (.cells (zin 0) 3))).two 2 (.slice M.a2 M.bl.length M.c2) rfl
 obtain ⟨p3,q3⟩:=(((R2.below (al_below w2 (.cells #[.int .i64 0,.int .i64 64,.int .i64 65] 3))).below (al_below (w2.alloc (.cells #[.int .i64 0,.int .i64 64,.int .i64 65] 3)) (.cells (zin 0) 3))).below (al_below ((w2.alloc (.cells #[.int .i64 0,.int .i64 64,.int .i64 65] 3)).alloc (.cells (zin 0) 3)) (.cells #[.slice (some ⟨w2.heap.size+1,0,none⟩) 0 0] 29))).two 2 (.slice M.a2 M.bl.length M.c2) rfl
 have HM0:=hide (((R2.drew.below (al_below w2.drew (.cells #[.int .i64 0,.int .i64 64,.int .i64 65] 3))).below (al_below (w2.drew.alloc (.cells #[.int .i64 0,.int .i64 64,.int .i64 65] 3)) (.cells (zin 0) 3))).below (al_below ((w2.drew.alloc (.cells #[.int .i64 0,.int .i64 64,.int .i64 65] 3)).alloc (.cells (zin 0) 3)) (.cells #[.slice (some ⟨w2.heap.size+1,0,none⟩) 0 0] 29)))
 have HM1:=hide (((R2.below (al_below w2 (.cells #[.int .i64 0,.int .i64 64,.int .i64 65] 3))).drew.below (al_below (w2.alloc (.cells #[.int .i64 0,.int .i64 64,.int .i64 65] 3)).drew (.cells (zin 0) 3))).below (al_below ((w2.alloc (.cells #[.int .i64 0,.int .i64 64,.int .i64 65] 3)).drew.alloc (.cells (zin 0) 3)) (.cells #[.slice (some ⟨w2.heap.size+1,0,none⟩) 0 0] 29)))
 have HM2:=hide (((R2.below (al_below w2 (.cells #[.int .i64 0,.int .i64 64,.int .i64 65] 3))).below (al_below (w2.alloc (.cells #[.int .i64 0,.int .i64 64,.int .i64 65] 3)) (.cells (zin 0) 3))).drew.below (al_below ((w2.alloc (.cells #[.int .i64 0,.int .i64 64,.int .i64 65] 3)).alloc (.cells (zin 0) 3)).drew (.cells #[.slice (some ⟨w2.heap.size+1,0,none⟩) 0 0] 29)))
 have HM3:=hide (((R2.below (al_below w2 (.cells #[.int .i64 0,.int .i64 64,.int .i64 65] 3))).below (al_below (w2.alloc (.cells #[.int .i64 0,.int .i64 64,.int .i64 65] 3)) (.cells (zin 0) 3))).below (al_below ((w2.alloc (.cells #[.int .i64 0,.int .i64 64,.int .i64 65] 3)).alloc (.cells (zin 0) 3)) (.cells #[.slice (some ⟨w2.heap.size+1,0,none⟩) 0 0] 29))).drew
 have HM4:=hide (((R2.below (al_below w2 (.cells #[.int .i64 0,.int .i64 64,.int .i64 65] 3))).below (al_below (w2.alloc (.cells #[.int .i64 0,.int .i64 64,.int .i64 65] 3)) (.cells (zin 0) 3))).below (al_below ((w2.alloc (.cells #[.int .i64 0,.int .i64 64,.int .i64 65] 3)).alloc (.cells (zin 0) 3)) (.cells #[.slice (some ⟨w2.heap.size+1,0,none⟩) 0 0] 29)))
 have HO0:=hide HM0.out.m.o.b.head
 have hS0:=HM0.out.m.d.sz
 have HO1:=hide HM1.out.m.o.b.head
 have hS1:=HM1.out.m.d.sz
 have HO2:=hide HM2.out.m.o.b.head
 have hS2:=HM2.out.m.d.sz
 have HO3:=hide HM3.out.m.o.b.head
 have hS3:=HM3.out.m.d.sz
 have HO4:=hide HM4.out.m.o.b.head
 have hS4:=HM4.out.m.d.sz
 have HN0:=hide (cells_at ((w2.drew.alloc (.cells #[.int .i64 0,.int .i64 64,.int .i64 65] 3)).alloc (.cells (zin 0) 3)) (w2.heap.size+1+1) _ 29 [.slice (some ⟨w2.heap.size+1,0,none⟩) 0 0] rfl (by simp [drw_sz]))
 have HN1:=hide (cells_at ((w2.alloc (.cells #[.int .i64 0,.int .i64 64,.int .i64 65] 3)).drew.alloc (.cells (zin 0) 3)) (w2.heap.size+1+1) _ 29 [.slice (some ⟨w2.heap.size+1,0,none⟩) 0 0] rfl (by simp [drw_sz]))
 have HN2:=hide (cells_at ((w2.alloc (.cells #[.int .i64 0,.int .i64 64,.int .i64 65] 3)).alloc (.cells (zin 0) 3)).drew (w2.heap.size+1+1) _ 29 [.slice (some ⟨w2.heap.size+1,0,none⟩) 0 0] rfl (by simp [drw_sz]))
 have HN3:=hide (cells_at ((w2.alloc (.cells #[.int .i64 0,.int .i64 64,.int .i64 65] 3)).alloc (.cells (zin 0) 3)) (w2.heap.size+1+1) _ 29 [.slice (some ⟨w2.heap.size+1,0,none⟩) 0 0] rfl (by simp [drw_sz]))
 have HN4:=hide (cells_at ((w2.alloc (.cells #[.int .i64 0,.int .i64 64,.int .i64 65] 3)).alloc (.cells (zin 0) 3)) (w2.heap.size+1+1) _ 29 [.slice (some ⟨w2.heap.size+1,0,none⟩) 0 0] rfl (by simp [drw_sz]))
 have ct:V.tmod 3=0:=by rw [Int.tmod_eq_emod_of_nonneg y0];exact c1
 have hmk:∀ W:World,(Instr.makeSlice 29 (.int .i64 0) (.int .i64 0)).run Tryz.prog W=.ok (.slice (some ⟨W.heap.size,0,none⟩) 0 0) (W.alloc (.cells (zin 0) 3)):=fun W=>mkI 0 (by omega) W
 have HX0:=hide ((og_zat (w2.drew.alloc (.cells #[.int .i64 0,.int .i64 64,.int .i64 65] 3)) (w2.heap.size+1) w2.heap.size 0 (by simp [drw_sz]) (by omega) (by omega)).below (al_below ((w2.drew.alloc (.cells #[.int .i64 0,.int .i64 64,.int .i64 65] 3)).alloc (.cells (zin 0) 3)) (.cells #[.slice (some ⟨w2.heap.size+1,0,none⟩) 0 0] 29)))
 have HX1:=hide ((og_zat (w2.alloc (.cells #[.int .i64 0,.int .i64 64,.int .i64 65] 3)).drew (w2.heap.size+1) w2.heap.size 0 (by simp [drw_sz]) (by omega) (by omega)).below (al_below ((w2.alloc (.cells #[.int .i64 0,.int .i64 64,.int .i64 65] 3)).drew.alloc (.cells (zin 0) 3)) (.cells #[.slice (some ⟨w2.heap.size+1,0,none⟩) 0 0] 29)))
 have HX2:=hide ((og_zat (w2.alloc (.cells #[.int .i64 0,.int .i64 64,.int .i64 65] 3)) (w2.heap.size+1) w2.heap.size 0 (by simp [drw_sz]) (by omega) (by omega)).drew.below (al_below ((w2.alloc (.cells #[.int .i64 0,.int .i64 64,.int .i64 65] 3)).alloc (.cells (zin 0) 3)).drew (.cells #[.slice (some ⟨w2.heap.size+1,0,none⟩) 0 0] 29)))
 have HX3:=hide ((og_zat (w2.alloc (.cells #[.int .i64 0,.int .i64 64,.int .i64 65] 3)) (w2.heap.size+1) w2.heap.size 0 (by simp [drw_sz]) (by omega) (by omega)).below (al_below ((w2.alloc (.cells #[.int .i64 0,.int .i64 64,.int .i64 65] 3)).alloc (.cells (zin 0) 3)) (.cells #[.slice (some ⟨w2.heap.size+1,0,none⟩) 0 0] 29))).drew
 have HX4:=hide ((og_zat (w2.alloc (.cells #[.int .i64 0,.int .i64 64,.int .i64 65] 3)) (w2.heap.size+1) w2.heap.size 0 (by simp [drw_sz]) (by omega) (by omega)).below (al_below ((w2.alloc (.cells #[.int .i64 0,.int .i64 64,.int .i64 65] 3)).alloc (.cells (zin 0) 3)) (.cells #[.slice (some ⟨w2.heap.size+1,0,none⟩) 0 0] 29)))
 obtain ⟨iB,hiB,hz0iB,hz1iB,hz2iB⟩:=info_parts infoB
 have HR2:=hide R2
 clear R2
 go_wp2_with fail
 go_region_law (first
  | (refine step_append_lies _ rfl _ _ 45 rfl w.heap.size 29 iB (.slice none 0 0) 1 24 Tryz.underlying45 hiB hz0iB hz1iB hz2iB rfl (by decide) (.slice M.a2 M.bl.length M.c2) M.bl.length (M.bl.map fun B=>Value.slice B.1 B.2.1 B.2.2.1) rfl (by first | exact HO0.out | exact HO1.out | exact HO2.out | exact HO3.out | exact HO4.out) ⟨w2.heap.size+1+1,0,none⟩ 1 1 [.slice (some ⟨w2.heap.size+1,0,none⟩) 0 0] rfl rfl (by first | exact HN0.out | exact HN1.out | exact HN2.out | exact HN3.out | exact HN4.out) (by intro u hu;simp [clI,clT,clX] at hu;first | (subst hu;rfl) | (rcases hu with rfl | rfl | rfl <;> rfl)) (by decide) (by unfold maxLen;omega) (by omega) (by first | exact hS0 | exact hS1 | exact hS2 | exact hS3 | exact hS4) _ rfl ?_;intro g4 c4 w5 hown hgr hat hlt4;obtain ⟨p9,q9⟩:=(show _∧_ from (by first | exact HM0.out.cell4 HO0.out hgr (by decide) 2 (u:=.slice M.a2 M.bl.length M.c2) rfl | exact HM1.out.cell4 HO1.out hgr (by decide) 2 (u:=.slice M.a2 M.bl.length M.c2) rfl | exact HM2.out.cell4 HO2.out hgr (by decide) 2 (u:=.slice M.a2 M.bl.length M.c2) rfl | exact HM3.out.cell4 HO3.out hgr (by decide) 2 (u:=.slice M.a2 M.bl.length M.c2) rfl | exact HM4.out.cell4 HO4.out hgr (by decide) 2 (u:=.slice M.a2 M.bl.length M.c2) rfl))))
 all_goals
  have HF:=hide (show MRU U W w (w5.setCell ⟨W.heap.size,2,none⟩ (.slice (some ⟨g4,0,none⟩) (M.bl.length+1) c4)) r a n c zs (k+1+1) W.heap.size (W.heap.size+1) _ _ from (by first | exact MRU.bankX (x:=List.replicate 0 0) HR2.out HM0.out (List.length_replicate ..) HX0.out (Nat.le_refl _) hown hgr hat | exact MRU.bankX (x:=List.replicate 0 0) HR2.out HM1.out (List.length_replicate ..) HX1.out (Nat.le_refl _) hown hgr hat | exact MRU.bankX (x:=List.replicate 0 0) HR2.out HM2.out (List.length_replicate ..) HX2.out (Nat.le_refl _) hown hgr hat | exact MRU.bankX (x:=List.replicate 0 0) HR2.out HM3.out (List.length_replicate ..) HX3.out (Nat.le_refl _) hown hgr hat | exact MRU.bankX (x:=List.replicate 0 0) HR2.out HM4.out (List.length_replicate ..) HX4.out (Nat.le_refl _) hown hgr hat))
  clear HX0 HX1 HX2 HX3 HX4 HM0 HO0 HN0 hS0 HM1 HO1 HN1 hS1 HM2 HO2 HN2 hS2 HM3 HO3 HN3 hS3 HM4 HO4 HN4 hS4 hown hgr hat hlt4 p9 q9 p0 q0 p1 q1 p2 q2 p3 q3 HR2
  generalize w5.setCell ⟨W.heap.size,2,none⟩ (.slice (some ⟨g4,0,none⟩) (M.bl.length+1) c4)=W5 at *
  obtain ⟨b0,b1,b2,b3,b4,b5,b6,b7⟩:=HF.out.m.box.eight'
  obtain ⟨f0,f1,f2,f3,f4,f5,f6,f7⟩:=HF.out.m.box.froz
  obtain ⟨r0,r1,r2,r3,r4,r5,r6,r7⟩:=z8_cells HF.out.res
  obtain ⟨s0,s1,s2,s3,s4,s5,s6,s7⟩:=HF.out.res.froz
  go_wp2
  refine spl_end HF.out.res rfl _ _ _ _ _ _ _ _ _ _ rfl ?_
  exact spu_fin HF.out _ _ _ _ _ _ _ _ (by simp [modV])
set_option maxHeartbeats 2000000 in
theorem sp2_1 (zs:List Int) (k:Nat) (K V:Int) (E1:Hid (zs.getD k 0=K)) (E2:Hid (zs.getD (k+1) 0=V)) (z0:0≤K) (z1:K≤255) (y0:0≤V) (y1:V≤255) (P:PMod) (DP:DnR P) (c0:K % 12=2) (c1:V % 3=1):SpU zs k P { P with bl:=P.bl++[List.replicate 64 0] } (k+2):=by
 intro U w W r a n c M D o ds hU hR
 have R0:=mru_spoil D o ds hU hR
 have hs0:=D.sz
 have hbl3:M.bl.length≤3:=by have:=DP.b.1;rw [← o.bls,List.length_map] at this;exact this
 clear D o ds hU hR
 go_enter Tryz.func136,Tryz.ntmps136
 go_wp2_with fail
 refine (R0.next K E1).mono ?_
 rintro e w1 ⟨rfl,R1⟩
 clear R0
 go_wp2_with fail
 refine (R1.next V E2).mono ?_
 rintro e w2 ⟨rfl,R2⟩
 clear R1 E1 E2
 obtain ⟨p0,q0⟩:=R2.two 2 (.slice M.a2 M.bl.length M.c2) rfl
 obtain ⟨p1,q1⟩:=(R2.below (al_below w2 (.cells #[.int .i64 0,.int .i64 64,.int .i64 65] 3))).two 2 (.slice M.a2 M.bl.length M.c2) rfl
 obtain ⟨p2,q2⟩:=((R2.below (al_below w2 (.cells #[.int .i64 0,.int .i64 64,.int .i64 65] 3))).below (al_below (w2.alloc (.cells #[.int .i64 0,.int .i64 64,.int .i64 65] 3)) (.cells (zin 64) 3))).two 2 (.slice M.a2 M.bl.length M.c2) rfl
 obtain ⟨p3,q3⟩:=(((R2.below (al_below w2 (.cells #[.int .i64 0,.int .i64 64,.int .i64 65] 3))).below (al_below (w2.alloc (.cells #[.int .i64 0,.int .i64 64,.int .i64 65] 3)) (.cells (zin 64) 3))).below (al_below ((w2.alloc (.cells #[.int .i64 0,.int .i64 64,.int .i64 65] 3)).alloc (.cells (zin 64) 3)) (.cells #[.slice (some ⟨w2.heap.size+1,0,none⟩) 64 64] 29))).two 2 (.slice M.a2 M.bl.length M.c2) rfl
 have HM0:=hide (((R2.drew.below (al_below w2.drew (.cells #[.int .i64 0,.int .i64 64,.int .i64 65] 3))).below (al_below (w2.drew.alloc (.cells #[.int .i64 0,.int .i64 64,.int .i64 65] 3)) (.cells (zin 64) 3))).below (al_below ((w2.drew.alloc (.cells #[.int .i64 0,.int .i64 64,.int .i64 65] 3)).alloc (.cells (zin 64) 3)) (.cells #[.slice (some ⟨w2.heap.size+1,0,none⟩) 64 64] 29)))
 have HM1:=hide (((R2.below (al_below w2 (.cells #[.int .i64 0,.int .i64 64,.int .i64 65] 3))).drew.below (al_below (w2.alloc (.cells #[.int .i64 0,.int .i64 64,.int .i64 65] 3)).drew (.cells (zin 64) 3))).below (al_below ((w2.alloc (.cells #[.int .i64 0,.int .i64 64,.int .i64 65] 3)).drew.alloc (.cells (zin 64) 3)) (.cells #[.slice (some ⟨w2.heap.size+1,0,none⟩) 64 64] 29)))
 have HM2:=hide (((R2.below (al_below w2 (.cells #[.int .i64 0,.int .i64 64,.int .i64 65] 3))).below (al_below (w2.alloc (.cells #[.int .i64 0,.int .i64 64,.int .i64 65] 3)) (.cells (zin 64) 3))).drew.below (al_below ((w2.alloc (.cells #[.int .i64 0,.int .i64 64,.int .i64 65] 3)).alloc (.cells (zin 64) 3)).drew (.cells #[.slice (some ⟨w2.heap.size+1,0,none⟩) 64 64] 29)))
 have HM3:=hide (((R2.below (al_below w2 (.cells #[.int .i64 0,.int .i64 64,.int .i64 65] 3))).below (al_below (w2.alloc (.cells #[.int .i64 0,.int .i64 64,.int .i64 65] 3)) (.cells (zin 64) 3))).below (al_below ((w2.alloc (.cells #[.int .i64 0,.int .i64 64,.int .i64 65] 3)).alloc (.cells (zin 64) 3)) (.cells #[.slice (some ⟨w2.heap.size+1,0,none⟩) 64 64] 29))).drew
 have HM4:=hide (((R2.below (al_below w2 (.cells #[.int .i64 0,.int .i64 64,.int .i64 65] 3))).below (al_below (w2.alloc (.cells #[.int .i64 0,.int .i64 64,.int .i64 65] 3)) (.cells (zin 64) 3))).below (al_below ((w2.alloc (.cells #[.int .i64 0,.int .i64 64,.int .i64 65] 3)).alloc (.cells (zin 64) 3)) (.cells #[.slice (some ⟨w2.heap.size+1,0,none⟩) 64 64] 29)))
 have HO0:=hide HM0.out.m.o.b.head
 have hS0:=HM0.out.m.d.sz
 have HO1:=hide HM1.out.m.o.b.head
 have hS1:=HM1.out.m.d.sz
 have HO2:=hide HM2.out.m.o.b.head
 have hS2:=HM2.out.m.d.sz
 have HO3:=hide HM3.out.m.o.b.head
 have hS3:=HM3.out.m.d.sz
 have HO4:=hide HM4.out.m.o.b.head
 have hS4:=HM4.out.m.d.sz
 have HN0:=hide (cells_at ((w2.drew.alloc (.cells #[.int .i64 0,.int .i64 64,.int .i64 65] 3)).alloc (.cells (zin 64) 3)) (w2.heap.size+1+1) _ 29 [.slice (some ⟨w2.heap.size+1,0,none⟩) 64 64] rfl (by simp [drw_sz]))
 have HN1:=hide (cells_at ((w2.alloc (.cells #[.int .i64 0,.int .i64 64,.int .i64 65] 3)).drew.alloc (.cells (zin 64) 3)) (w2.heap.size+1+1) _ 29 [.slice (some ⟨w2.heap.size+1,0,none⟩) 64 64] rfl (by simp [drw_sz]))
 have HN2:=hide (cells_at ((w2.alloc (.cells #[.int .i64 0,.int .i64 64,.int .i64 65] 3)).alloc (.cells (zin 64) 3)).drew (w2.heap.size+1+1) _ 29 [.slice (some ⟨w2.heap.size+1,0,none⟩) 64 64] rfl (by simp [drw_sz]))
 have HN3:=hide (cells_at ((w2.alloc (.cells #[.int .i64 0,.int .i64 64,.int .i64 65] 3)).alloc (.cells (zin 64) 3)) (w2.heap.size+1+1) _ 29 [.slice (some ⟨w2.heap.size+1,0,none⟩) 64 64] rfl (by simp [drw_sz]))
 have HN4:=hide (cells_at ((w2.alloc (.cells #[.int .i64 0,.int .i64 64,.int .i64 65] 3)).alloc (.cells (zin 64) 3)) (w2.heap.size+1+1) _ 29 [.slice (some ⟨w2.heap.size+1,0,none⟩) 64 64] rfl (by simp [drw_sz]))
 have ct:V.tmod 3=1:=by rw [Int.tmod_eq_emod_of_nonneg y0];exact c1
 have hmk:∀ W:World,(Instr.makeSlice 29 (.int .i64 64) (.int .i64 64)).run Tryz.prog W=.ok (.slice (some ⟨W.heap.size,0,none⟩) 64 64) (W.alloc (.cells (zin 64) 3)):=fun W=>mkI 64 (by omega) W
 have HX0:=hide ((og_zat (w2.drew.alloc (.cells #[.int .i64 0,.int .i64 64,.int .i64 65] 3)) (w2.heap.size+1) w2.heap.size 64 (by simp [drw_sz]) (by omega) (by omega)).below (al_below ((w2.drew.alloc (.cells #[.int .i64 0,.int .i64 64,.int .i64 65] 3)).alloc (.cells (zin 64) 3)) (.cells #[.slice (some ⟨w2.heap.size+1,0,none⟩) 64 64] 29)))
 have HX1:=hide ((og_zat (w2.alloc (.cells #[.int .i64 0,.int .i64 64,.int .i64 65] 3)).drew (w2.heap.size+1) w2.heap.size 64 (by simp [drw_sz]) (by omega) (by omega)).below (al_below ((w2.alloc (.cells #[.int .i64 0,.int .i64 64,.int .i64 65] 3)).drew.alloc (.cells (zin 64) 3)) (.cells #[.slice (some ⟨w2.heap.size+1,0,none⟩) 64 64] 29)))
 have HX2:=hide ((og_zat (w2.alloc (.cells #[.int .i64 0,.int .i64 64,.int .i64 65] 3)) (w2.heap.size+1) w2.heap.size 64 (by simp [drw_sz]) (by omega) (by omega)).drew.below (al_below ((w2.alloc (.cells #[.int .i64 0,.int .i64 64,.int .i64 65] 3)).alloc (.cells (zin 64) 3)).drew (.cells #[.slice (some ⟨w2.heap.size+1,0,none⟩) 64 64] 29)))
 have HX3:=hide ((og_zat (w2.alloc (.cells #[.int .i64 0,.int .i64 64,.int .i64 65] 3)) (w2.heap.size+1) w2.heap.size 64 (by simp [drw_sz]) (by omega) (by omega)).below (al_below ((w2.alloc (.cells #[.int .i64 0,.int .i64 64,.int .i64 65] 3)).alloc (.cells (zin 64) 3)) (.cells #[.slice (some ⟨w2.heap.size+1,0,none⟩) 64 64] 29))).drew
 have HX4:=hide ((og_zat (w2.alloc (.cells #[.int .i64 0,.int .i64 64,.int .i64 65] 3)) (w2.heap.size+1) w2.heap.size 64 (by simp [drw_sz]) (by omega) (by omega)).below (al_below ((w2.alloc (.cells #[.int .i64 0,.int .i64 64,.int .i64 65] 3)).alloc (.cells (zin 64) 3)) (.cells #[.slice (some ⟨w2.heap.size+1,0,none⟩) 64 64] 29)))
 obtain ⟨iB,hiB,hz0iB,hz1iB,hz2iB⟩:=info_parts infoB
 have HR2:=hide R2
 clear R2
 go_wp2_with fail
 go_region_law (first
  | (refine step_append_lies _ rfl _ _ 45 rfl w.heap.size 29 iB (.slice none 0 0) 1 24 Tryz.underlying45 hiB hz0iB hz1iB hz2iB rfl (by decide) (.slice M.a2 M.bl.length M.c2) M.bl.length (M.bl.map fun B=>Value.slice B.1 B.2.1 B.2.2.1) rfl (by first | exact HO0.out | exact HO1.out | exact HO2.out | exact HO3.out | exact HO4.out) ⟨w2.heap.size+1+1,0,none⟩ 1 1 [.slice (some ⟨w2.heap.size+1,0,none⟩) 64 64] rfl rfl (by first | exact HN0.out | exact HN1.out | exact HN2.out | exact HN3.out | exact HN4.out) (by intro u hu;simp [clI,clT,clX] at hu;first | (subst hu;rfl) | (rcases hu with rfl | rfl | rfl <;> rfl)) (by decide) (by unfold maxLen;omega) (by omega) (by first | exact hS0 | exact hS1 | exact hS2 | exact hS3 | exact hS4) _ rfl ?_;intro g4 c4 w5 hown hgr hat hlt4;obtain ⟨p9,q9⟩:=(show _∧_ from (by first | exact HM0.out.cell4 HO0.out hgr (by decide) 2 (u:=.slice M.a2 M.bl.length M.c2) rfl | exact HM1.out.cell4 HO1.out hgr (by decide) 2 (u:=.slice M.a2 M.bl.length M.c2) rfl | exact HM2.out.cell4 HO2.out hgr (by decide) 2 (u:=.slice M.a2 M.bl.length M.c2) rfl | exact HM3.out.cell4 HO3.out hgr (by decide) 2 (u:=.slice M.a2 M.bl.length M.c2) rfl | exact HM4.out.cell4 HO4.out hgr (by decide) 2 (u:=.slice M.a2 M.bl.length M.c2) rfl))))
 all_goals
  have HF:=hide (show MRU U W w (w5.setCell ⟨W.heap.size,2,none⟩ (.slice (some ⟨g4,0,none⟩) (M.bl.length+1) c4)) r a n c zs (k+1+1) W.heap.size (W.heap.size+1) _ _ from (by first | exact MRU.bankX (x:=List.replicate 64 0) HR2.out HM0.out (List.length_replicate ..) HX0.out (Nat.le_refl _) hown hgr hat | exact MRU.bankX (x:=List.replicate 64 0) HR2.out HM1.out (List.length_replicate ..) HX1.out (Nat.le_refl _) hown hgr hat | exact MRU.bankX (x:=List.replicate 64 0) HR2.out HM2.out (List.length_replicate ..) HX2.out (Nat.le_refl _) hown hgr hat | exact MRU.bankX (x:=List.replicate 64 0) HR2.out HM3.out (List.length_replicate ..) HX3.out (Nat.le_refl _) hown hgr hat | exact MRU.bankX (x:=List.replicate 64 0) HR2.out HM4.out (List.length_replicate ..) HX4.out (Nat.le_refl _) hown hgr hat))
  clear HX0 HX1 HX2 HX3 HX4 HM0 HO0 HN0 hS0 HM1 HO1 HN1 hS1 HM2 HO2 HN2 hS2 HM3 HO3 HN3 hS3 HM4 HO4 HN4 hS4 hown hgr hat hlt4 p9 q9 p0 q0 p1 q1 p2 q2 p3 q3 HR2
  generalize w5.setCell ⟨W.heap.size,2,none⟩ (.slice (some ⟨g4,0,none⟩) (M.bl.length+1) c4)=W5 at *
  obtain ⟨b0,b1,b2,b3,b4,b5,b6,b7⟩:=HF.out.m.box.eight'
  obtain ⟨f0,f1,f2,f3,f4,f5,f6,f7⟩:=HF.out.m.box.froz
  obtain ⟨r0,r1,r2,r3,r4,r5,r6,r7⟩:=z8_cells HF.out.res
  obtain ⟨s0,s1,s2,s3,s4,s5,s6,s7⟩:=HF.out.res.froz
  go_wp2
  refine spl_end HF.out.res rfl _ _ _ _ _ _ _ _ _ _ rfl ?_
  exact spu_fin HF.out _ _ _ _ _ _ _ _ (by simp [modV])
set_option maxHeartbeats 2000000 in
theorem sp2_2 (zs:List Int) (k:Nat) (K V:Int) (E1:Hid (zs.getD k 0=K)) (E2:Hid (zs.getD (k+1) 0=V)) (z0:0≤K) (z1:K≤255) (y0:0≤V) (y1:V≤255) (P:PMod) (DP:DnR P) (c0:K % 12=2) (c1:V % 3=2):SpU zs k P { P with bl:=P.bl++[List.replicate 65 0] } (k+2):=by
 intro U w W r a n c M D o ds hU hR
 have R0:=mru_spoil D o ds hU hR
 have hs0:=D.sz
 have hbl3:M.bl.length≤3:=by have:=DP.b.1;rw [← o.bls,List.length_map] at this;exact this
 clear D o ds hU hR
 go_enter Tryz.func136,Tryz.ntmps136
 go_wp2_with fail
 refine (R0.next K E1).mono ?_
 rintro e w1 ⟨rfl,R1⟩
 clear R0
 go_wp2_with fail
 refine (R1.next V E2).mono ?_
 rintro e w2 ⟨rfl,R2⟩
 clear R1 E1 E2
 obtain ⟨p0,q0⟩:=R2.two 2 (.slice M.a2 M.bl.length M.c2) rfl
 obtain ⟨p1,q1⟩:=(R2.below (al_below w2 (.cells #[.int .i64 0,.int .i64 64,.int .i64 65] 3))).two 2 (.slice M.a2 M.bl.length M.c2) rfl
 obtain ⟨p2,q2⟩:=((R2.below (al_below w2 (.cells #[.int .i64 0,.int .i64 64,.int .i64 65] 3))).below (al_below (w2.alloc (.cells #[.int .i64 0,.int .i64 64,.int .i64 65] 3)) (.cells (zin 65) 3))).two 2 (.slice M.a2 M.bl.length M.c2) rfl
 obtain ⟨p3,q3⟩:=(((R2.below (al_below w2 (.cells #[.int .i64 0,.int .i64 64,.int .i64 65] 3))).below (al_below (w2.alloc (.cells #[.int .i64 0,.int .i64 64,.int .i64 65] 3)) (.cells (zin 65) 3))).below (al_below ((w2.alloc (.cells #[.int .i64 0,.int .i64 64,.int .i64 65] 3)).alloc (.cells (zin 65) 3)) (.cells #[.slice (some ⟨w2.heap.size+1,0,none⟩) 65 65] 29))).two 2 (.slice M.a2 M.bl.length M.c2) rfl
 have HM0:=hide (((R2.drew.below (al_below w2.drew (.cells #[.int .i64 0,.int .i64 64,.int .i64 65] 3))).below (al_below (w2.drew.alloc (.cells #[.int .i64 0,.int .i64 64,.int .i64 65] 3)) (.cells (zin 65) 3))).below (al_below ((w2.drew.alloc (.cells #[.int .i64 0,.int .i64 64,.int .i64 65] 3)).alloc (.cells (zin 65) 3)) (.cells #[.slice (some ⟨w2.heap.size+1,0,none⟩) 65 65] 29)))
 have HM1:=hide (((R2.below (al_below w2 (.cells #[.int .i64 0,.int .i64 64,.int .i64 65] 3))).drew.below (al_below (w2.alloc (.cells #[.int .i64 0,.int .i64 64,.int .i64 65] 3)).drew (.cells (zin 65) 3))).below (al_below ((w2.alloc (.cells #[.int .i64 0,.int .i64 64,.int .i64 65] 3)).drew.alloc (.cells (zin 65) 3)) (.cells #[.slice (some ⟨w2.heap.size+1,0,none⟩) 65 65] 29)))
 have HM2:=hide (((R2.below (al_below w2 (.cells #[.int .i64 0,.int .i64 64,.int .i64 65] 3))).below (al_below (w2.alloc (.cells #[.int .i64 0,.int .i64 64,.int .i64 65] 3)) (.cells (zin 65) 3))).drew.below (al_below ((w2.alloc (.cells #[.int .i64 0,.int .i64 64,.int .i64 65] 3)).alloc (.cells (zin 65) 3)).drew (.cells #[.slice (some ⟨w2.heap.size+1,0,none⟩) 65 65] 29)))
 have HM3:=hide (((R2.below (al_below w2 (.cells #[.int .i64 0,.int .i64 64,.int .i64 65] 3))).below (al_below (w2.alloc (.cells #[.int .i64 0,.int .i64 64,.int .i64 65] 3)) (.cells (zin 65) 3))).below (al_below ((w2.alloc (.cells #[.int .i64 0,.int .i64 64,.int .i64 65] 3)).alloc (.cells (zin 65) 3)) (.cells #[.slice (some ⟨w2.heap.size+1,0,none⟩) 65 65] 29))).drew
 have HM4:=hide (((R2.below (al_below w2 (.cells #[.int .i64 0,.int .i64 64,.int .i64 65] 3))).below (al_below (w2.alloc (.cells #[.int .i64 0,.int .i64 64,.int .i64 65] 3)) (.cells (zin 65) 3))).below (al_below ((w2.alloc (.cells #[.int .i64 0,.int .i64 64,.int .i64 65] 3)).alloc (.cells (zin 65) 3)) (.cells #[.slice (some ⟨w2.heap.size+1,0,none⟩) 65 65] 29)))
 have HO0:=hide HM0.out.m.o.b.head
 have hS0:=HM0.out.m.d.sz
 have HO1:=hide HM1.out.m.o.b.head
 have hS1:=HM1.out.m.d.sz
 have HO2:=hide HM2.out.m.o.b.head
 have hS2:=HM2.out.m.d.sz
 have HO3:=hide HM3.out.m.o.b.head
 have hS3:=HM3.out.m.d.sz
 have HO4:=hide HM4.out.m.o.b.head
 have hS4:=HM4.out.m.d.sz
 have HN0:=hide (cells_at ((w2.drew.alloc (.cells #[.int .i64 0,.int .i64 64,.int .i64 65] 3)).alloc (.cells (zin 65) 3)) (w2.heap.size+1+1) _ 29 [.slice (some ⟨w2.heap.size+1,0,none⟩) 65 65] rfl (by simp [drw_sz]))
 have HN1:=hide (cells_at ((w2.alloc (.cells #[.int .i64 0,.int .i64 64,.int .i64 65] 3)).drew.alloc (.cells (zin 65) 3)) (w2.heap.size+1+1) _ 29 [.slice (some ⟨w2.heap.size+1,0,none⟩) 65 65] rfl (by simp [drw_sz]))
 have HN2:=hide (cells_at ((w2.alloc (.cells #[.int .i64 0,.int .i64 64,.int .i64 65] 3)).alloc (.cells (zin 65) 3)).drew (w2.heap.size+1+1) _ 29 [.slice (some ⟨w2.heap.size+1,0,none⟩) 65 65] rfl (by simp [drw_sz]))
 have HN3:=hide (cells_at ((w2.alloc (.cells #[.int .i64 0,.int .i64 64,.int .i64 65] 3)).alloc (.cells (zin 65) 3)) (w2.heap.size+1+1) _ 29 [.slice (some ⟨w2.heap.size+1,0,none⟩) 65 65] rfl (by simp [drw_sz]))
 have HN4:=hide (cells_at ((w2.alloc (.cells #[.int .i64 0,.int .i64 64,.int .i64 65] 3)).alloc (.cells (zin 65) 3)) (w2.heap.size+1+1) _ 29 [.slice (some ⟨w2.heap.size+1,0,none⟩) 65 65] rfl (by simp [drw_sz]))
 have ct:V.tmod 3=2:=by rw [Int.tmod_eq_emod_of_nonneg y0];exact c1
 have hmk:∀ W:World,(Instr.makeSlice 29 (.int .i64 65) (.int .i64 65)).run Tryz.prog W=.ok (.slice (some ⟨W.heap.size,0,none⟩) 65 65) (W.alloc (.cells (zin 65) 3)):=fun W=>mkI 65 (by omega) W
 have HX0:=hide ((og_zat (w2.drew.alloc (.cells #[.int .i64 0,.int .i64 64,.int .i64 65] 3)) (w2.heap.size+1) w2.heap.size 65 (by simp [drw_sz]) (by omega) (by omega)).below (al_below ((w2.drew.alloc (.cells #[.int .i64 0,.int .i64 64,.int .i64 65] 3)).alloc (.cells (zin 65) 3)) (.cells #[.slice (some ⟨w2.heap.size+1,0,none⟩) 65 65] 29)))
 have HX1:=hide ((og_zat (w2.alloc (.cells #[.int .i64 0,.int .i64 64,.int .i64 65] 3)).drew (w2.heap.size+1) w2.heap.size 65 (by simp [drw_sz]) (by omega) (by omega)).below (al_below ((w2.alloc (.cells #[.int .i64 0,.int .i64 64,.int .i64 65] 3)).drew.alloc (.cells (zin 65) 3)) (.cells #[.slice (some ⟨w2.heap.size+1,0,none⟩) 65 65] 29)))
 have HX2:=hide ((og_zat (w2.alloc (.cells #[.int .i64 0,.int .i64 64,.int .i64 65] 3)) (w2.heap.size+1) w2.heap.size 65 (by simp [drw_sz]) (by omega) (by omega)).drew.below (al_below ((w2.alloc (.cells #[.int .i64 0,.int .i64 64,.int .i64 65] 3)).alloc (.cells (zin 65) 3)).drew (.cells #[.slice (some ⟨w2.heap.size+1,0,none⟩) 65 65] 29)))
 have HX3:=hide ((og_zat (w2.alloc (.cells #[.int .i64 0,.int .i64 64,.int .i64 65] 3)) (w2.heap.size+1) w2.heap.size 65 (by simp [drw_sz]) (by omega) (by omega)).below (al_below ((w2.alloc (.cells #[.int .i64 0,.int .i64 64,.int .i64 65] 3)).alloc (.cells (zin 65) 3)) (.cells #[.slice (some ⟨w2.heap.size+1,0,none⟩) 65 65] 29))).drew
 have HX4:=hide ((og_zat (w2.alloc (.cells #[.int .i64 0,.int .i64 64,.int .i64 65] 3)) (w2.heap.size+1) w2.heap.size 65 (by simp [drw_sz]) (by omega) (by omega)).below (al_below ((w2.alloc (.cells #[.int .i64 0,.int .i64 64,.int .i64 65] 3)).alloc (.cells (zin 65) 3)) (.cells #[.slice (some ⟨w2.heap.size+1,0,none⟩) 65 65] 29)))
 obtain ⟨iB,hiB,hz0iB,hz1iB,hz2iB⟩:=info_parts infoB
 have HR2:=hide R2
 clear R2
 go_wp2_with fail
 go_region_law (first
  | (refine step_append_lies _ rfl _ _ 45 rfl w.heap.size 29 iB (.slice none 0 0) 1 24 Tryz.underlying45 hiB hz0iB hz1iB hz2iB rfl (by decide) (.slice M.a2 M.bl.length M.c2) M.bl.length (M.bl.map fun B=>Value.slice B.1 B.2.1 B.2.2.1) rfl (by first | exact HO0.out | exact HO1.out | exact HO2.out | exact HO3.out | exact HO4.out) ⟨w2.heap.size+1+1,0,none⟩ 1 1 [.slice (some ⟨w2.heap.size+1,0,none⟩) 65 65] rfl rfl (by first | exact HN0.out | exact HN1.out | exact HN2.out | exact HN3.out | exact HN4.out) (by intro u hu;simp [clI,clT,clX] at hu;first | (subst hu;rfl) | (rcases hu with rfl | rfl | rfl <;> rfl)) (by decide) (by unfold maxLen;omega) (by omega) (by first | exact hS0 | exact hS1 | exact hS2 | exact hS3 | exact hS4) _ rfl ?_;intro g4 c4 w5 hown hgr hat hlt4;obtain ⟨p9,q9⟩:=(show _∧_ from (by first | exact HM0.out.cell4 HO0.out hgr (by decide) 2 (u:=.slice M.a2 M.bl.length M.c2) rfl | exact HM1.out.cell4 HO1.out hgr (by decide) 2 (u:=.slice M.a2 M.bl.length M.c2) rfl | exact HM2.out.cell4 HO2.out hgr (by decide) 2 (u:=.slice M.a2 M.bl.length M.c2) rfl | exact HM3.out.cell4 HO3.out hgr (by decide) 2 (u:=.slice M.a2 M.bl.length M.c2) rfl | exact HM4.out.cell4 HO4.out hgr (by decide) 2 (u:=.slice M.a2 M.bl.length M.c2) rfl))))
 all_goals
  have HF:=hide (show MRU U W w (w5.setCell ⟨W.heap.size,2,none⟩ (.slice (some ⟨g4,0,none⟩) (M.bl.length+1) c4)) r a n c zs (k+1+1) W.heap.size (W.heap.size+1) _ _ from (by first | exact MRU.bankX (x:=List.replicate 65 0) HR2.out HM0.out (List.length_replicate ..) HX0.out (Nat.le_refl _) hown hgr hat | exact MRU.bankX (x:=List.replicate 65 0) HR2.out HM1.out (List.length_replicate ..) HX1.out (Nat.le_refl _) hown hgr hat | exact MRU.bankX (x:=List.replicate 65 0) HR2.out HM2.out (List.length_replicate ..) HX2.out (Nat.le_refl _) hown hgr hat | exact MRU.bankX (x:=List.replicate 65 0) HR2.out HM3.out (List.length_replicate ..) HX3.out (Nat.le_refl _) hown hgr hat | exact MRU.bankX (x:=List.replicate 65 0) HR2.out HM4.out (List.length_replicate ..) HX4.out (Nat.le_refl _) hown hgr hat))
  clear HX0 HX1 HX2 HX3 HX4 HM0 HO0 HN0 hS0 HM1 HO1 HN1 hS1 HM2 HO2 HN2 hS2 HM3 HO3 HN3 hS3 HM4 HO4 HN4 hS4 hown hgr hat hlt4 p9 q9 p0 q0 p1 q1 p2 q2 p3 q3 HR2
  generalize w5.setCell ⟨W.heap.size,2,none⟩ (.slice (some ⟨g4,0,none⟩) (M.bl.length+1) c4)=W5 at *
  obtain ⟨b0,b1,b2,b3,b4,b5,b6,b7⟩:=HF.out.m.box.eight'
  obtain ⟨f0,f1,f2,f3,f4,f5,f6,f7⟩:=HF.out.m.box.froz
  obtain ⟨r0,r1,r2,r3,r4,r5,r6,r7⟩:=z8_cells HF.out.res
  obtain ⟨s0,s1,s2,s3,s4,s5,s6,s7⟩:=HF.out.res.froz
  go_wp2
  refine spl_end HF.out.res rfl _ _ _ _ _ _ _ _ _ _ rfl ?_
  exact spu_fin HF.out _ _ _ _ _ _ _ _ (by simp [modV])
structure TL (w W:World) (cb:Array Value) (tb:TypeId) (cr co:Array Value) (t:TypeId):Prop where
 kb:Blk W w.heap.size cb tb
 kr:Blk W (w.heap.size+1) cr t
 ko:Blk W (w.heap.size+1+1) co t
 hB:Below w.heap.size w W
theorem TL.below {w W W':World} {cb cr co:Array Value} {tb t:TypeId} (h:TL w W cb tb cr co t) (hb:Below W.heap.size W W'):TL w W' cb tb cr co t:=⟨h.kb.below hb,h.kr.below hb,h.ko.below hb,h.hB.trans (hb.mono h.hB.size)⟩
theorem TL.set {w W:World} {cb cr co:Array Value} {tb t:TypeId} (h:TL w W cb tb cr co t) (i:Nat) (v:Value):TL w (W.setCell ⟨w.heap.size+1+1,i,none⟩ v) cb tb cr (co.setIfInBounds i v) t:=
 ⟨h.kb.other _ _ (by dsimp only;omega),h.kr.other _ _ (by dsimp only;omega),h.ko.set i v,h.hB.setCell (p:=⟨w.heap.size+1+1,i,none⟩) (by dsimp only;omega) v⟩
theorem TL.setr {w W:World} {cb cr co:Array Value} {tb t:TypeId} (h:TL w W cb tb cr co t) (i:Nat) (v:Value):TL w (W.setCell ⟨w.heap.size+1,i,none⟩ v) cb tb (cr.setIfInBounds i v) co t:=
 ⟨h.kb.other _ _ (by dsimp only;omega),h.kr.set i v,h.ko.other _ _ (by dsimp only;omega),h.hB.setCell (p:=⟨w.heap.size+1,i,none⟩) (by dsimp only;omega) v⟩
theorem Blk.lyt {w:World} {b:Nat} {t:TypeId} {v0 v1 v2 v3 v4 v5:Value} (h:Blk w b #[v0,v1,v2,v3,v4,v5] t):w.cell? ⟨b,0,none⟩=some v0∧w.cell? ⟨b,1,none⟩=some v1∧w.cell? ⟨b,2,none⟩=some v2∧w.cell? ⟨b,3,none⟩=some v3∧w.cell? ⟨b,4,none⟩=some v4∧w.cell? ⟨b,5,none⟩=some v5:=⟨h.cell 0,h.cell 1,h.cell 2,h.cell 3,h.cell 4,h.cell 5⟩
end Go.Proofs.YtngdgogjlpjjpadGreat
