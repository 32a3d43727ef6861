import Derived.Test.YtngdgogjlpjjpadGreatP08
import Derived.Test.YtngdgogjlpjjpadGreatP26
namespace Go.Proofs.YtngdgogjlpjjpadGreat
open Go.RowKit
set_option linter.unusedVariables false
set_option linter.unusedSimpArgs false
set_option maxRecDepth 100000
set_option maxHeartbeats 2000000 in
theorem sp3_0 (zs:List Int) (k:Nat) (K V:Int) (E1:Hid (zs.getD k 0=K)) (E2:Hid (zs.getD (k+1) 0=V)) (z0:0≤K) (z1:K≤255) (y0:0≤V) (y1:V≤255) (P:PMod) (DP:DnR P) (c0:K % 12=3) (c1:V % 3=0):SpU zs k P { P with tz:=P.tz++[-1] } (k+2):=by
 intro U w W r a n c M D o ds hU hR
 have R0:=mru_spoil D o ds hU hR
 have hs0:=D.sz
 have htl:=DP.t.1
 clear D o ds hU hR
 go_enter Tryz.func136,Tryz.ntmps136
 go_wp2_with fail
 refine (R0.next K E1).mono ?_
 rintro e w1 ⟨rfl,R1⟩
 clear R0
 go_wp2_with fail
 refine (R1.next V E2).mono ?_
 rintro e w2 ⟨rfl,R2⟩
 clear R1 E1 E2
 obtain ⟨p0,q0⟩:=R2.two 1 (.slice M.a1 P.tz.length M.c1) rfl
 obtain ⟨p1,q1⟩:=(R2.below (al_below w2 (.cells #[.int .i64 (-1),.int .i64 4294967295,.int .i64 4294967296] 3))).two 1 (.slice M.a1 P.tz.length M.c1) rfl
 obtain ⟨p2,q2⟩:=((R2.below (al_below w2 (.cells #[.int .i64 (-1),.int .i64 4294967295,.int .i64 4294967296] 3))).below (al_below (w2.alloc (.cells #[.int .i64 (-1),.int .i64 4294967295,.int .i64 4294967296] 3)) (.cells #[.int .i64 (-1)] 3))).two 1 (.slice M.a1 P.tz.length M.c1) rfl
 have HM0:=hide ((R2.drew.below (al_below w2.drew (.cells #[.int .i64 (-1),.int .i64 4294967295,.int .i64 4294967296] 3))).below (al_below (w2.drew.alloc (.cells #[.int .i64 (-1),.int .i64 4294967295,.int .i64 4294967296] 3)) (.cells #[.int .i64 (-1)] 3)))
 have HM1:=hide ((R2.below (al_below w2 (.cells #[.int .i64 (-1),.int .i64 4294967295,.int .i64 4294967296] 3))).drew.below (al_below (w2.alloc (.cells #[.int .i64 (-1),.int .i64 4294967295,.int .i64 4294967296] 3)).drew (.cells #[.int .i64 (-1)] 3)))
 have HM2:=hide ((R2.below (al_below w2 (.cells #[.int .i64 (-1),.int .i64 4294967295,.int .i64 4294967296] 3))).below (al_below (w2.alloc (.cells #[.int .i64 (-1),.int .i64 4294967295,.int .i64 4294967296] 3)) (.cells #[.int .i64 (-1)] 3))).drew
 have HM3:=hide ((R2.below (al_below w2 (.cells #[.int .i64 (-1),.int .i64 4294967295,.int .i64 4294967296] 3))).below (al_below (w2.alloc (.cells #[.int .i64 (-1),.int .i64 4294967295,.int .i64 4294967296] 3)) (.cells #[.int .i64 (-1)] 3)))
 have HO0:=hide HM0.out.m.o.t
 have hS0:=HM0.out.m.d.sz
 have HO1:=hide HM1.out.m.o.t
 have hS1:=HM1.out.m.d.sz
 have HO2:=hide HM2.out.m.o.t
 have hS2:=HM2.out.m.d.sz
 have HO3:=hide HM3.out.m.o.t
 have hS3:=HM3.out.m.d.sz
 have HN0:=hide (cells_at (w2.drew.alloc (.cells #[.int .i64 (-1),.int .i64 4294967295,.int .i64 4294967296] 3)) (w2.heap.size+1) _ 3 (clI (-1)) rfl (by simp [drw_sz]))
 have HN1:=hide (cells_at (w2.alloc (.cells #[.int .i64 (-1),.int .i64 4294967295,.int .i64 4294967296] 3)).drew (w2.heap.size+1) _ 3 (clI (-1)) rfl (by simp [drw_sz]))
 have HN2:=hide (cells_at (w2.alloc (.cells #[.int .i64 (-1),.int .i64 4294967295,.int .i64 4294967296] 3)) (w2.heap.size+1) _ 3 (clI (-1)) rfl (by simp [drw_sz]))
 have HN3:=hide (cells_at (w2.alloc (.cells #[.int .i64 (-1),.int .i64 4294967295,.int .i64 4294967296] 3)) (w2.heap.size+1) _ 3 (clI (-1)) rfl (by simp [drw_sz]))
 have ct:V.tmod 3=0:=by rw [Int.tmod_eq_emod_of_nonneg y0];exact c1
 obtain ⟨iI,hiI,hz0iI,hz1iI,hz2iI⟩:=info_parts infoI
 have HR2:=hide R2
 clear R2
 go_wp2_with fail
 go_region_law (first
  | (refine step_append_lies _ rfl _ _ 29 rfl w.heap.size 3 iI (.int .i64 0) 1 8 Tryz.underlying29 hiI hz0iI hz1iI hz2iI rfl (by decide) (.slice M.a1 P.tz.length M.c1) P.tz.length (P.tz.flatMap clI) rfl (by first | exact HO0.out | exact HO1.out | exact HO2.out | exact HO3.out) ⟨w2.heap.size+1,0,none⟩ 1 1 (clI (-1)) rfl rfl (by first | exact HN0.out | exact HN1.out | exact HN2.out | exact HN3.out) (by intro u hu;simp [clI,clT,clX] at hu;first | (subst hu;rfl) | (rcases hu with rfl | rfl | rfl <;> rfl)) (by decide) (by unfold maxLen;omega) (by omega) (by first | exact hS0 | exact hS1 | exact hS2 | exact hS3) _ rfl ?_;intro g4 c4 w5 hown hgr hat hlt4;obtain ⟨p9,q9⟩:=(show _∧_ from (by first | exact HM0.out.cell4 HO0.out hgr (by decide) 1 (u:=.slice M.a1 P.tz.length M.c1) rfl | exact HM1.out.cell4 HO1.out hgr (by decide) 1 (u:=.slice M.a1 P.tz.length M.c1) rfl | exact HM2.out.cell4 HO2.out hgr (by decide) 1 (u:=.slice M.a1 P.tz.length M.c1) rfl | exact HM3.out.cell4 HO3.out hgr (by decide) 1 (u:=.slice M.a1 P.tz.length M.c1) rfl))))
 all_goals
  have HF:=hide (show MRU U W w (w5.setCell ⟨W.heap.size,1,none⟩ (.slice (some ⟨g4,0,none⟩) (P.tz.length+1) c4)) r a n c zs (k+1+1) W.heap.size (W.heap.size+1) _ _ from (by first | exact MRU.text (x:=-1) HM0.out hown hgr hat | exact MRU.text (x:=-1) HM1.out hown hgr hat | exact MRU.text (x:=-1) HM2.out hown hgr hat | exact MRU.text (x:=-1) HM3.out hown hgr hat))
  clear HM0 HO0 HN0 hS0 HM1 HO1 HN1 hS1 HM2 HO2 HN2 hS2 HM3 HO3 HN3 hS3 hown hgr hat hlt4 p9 q9 p0 q0 p1 q1 p2 q2 HR2
  generalize w5.setCell ⟨W.heap.size,1,none⟩ (.slice (some ⟨g4,0,none⟩) (P.tz.length+1) c4)=W5 at *
  obtain ⟨b0,b1,b2,b3,b4,b5,b6,b7⟩:=HF.out.m.box.eight'
  obtain ⟨f0,f1,f2,f3,f4,f5,f6,f7⟩:=HF.out.m.box.froz
  obtain ⟨r0,r1,r2,r3,r4,r5,r6,r7⟩:=z8_cells HF.out.res
  obtain ⟨s0,s1,s2,s3,s4,s5,s6,s7⟩:=HF.out.res.froz
  go_wp2
  refine spl_end HF.out.res rfl _ _ _ _ _ _ _ _ _ _ rfl ?_
  exact spu_fin HF.out _ _ _ _ _ _ _ _ (by simp [modV])
set_option maxHeartbeats 2000000 in
theorem sp3_1 (zs:List Int) (k:Nat) (K V:Int) (E1:Hid (zs.getD k 0=K)) (E2:Hid (zs.getD (k+1) 0=V)) (z0:0≤K) (z1:K≤255) (y0:0≤V) (y1:V≤255) (P:PMod) (DP:DnR P) (c0:K % 12=3) (c1:V % 3=1):SpU zs k P { P with tz:=P.tz++[4294967295] } (k+2):=by
 intro U w W r a n c M D o ds hU hR
 have R0:=mru_spoil D o ds hU hR
 have hs0:=D.sz
 have htl:=DP.t.1
 clear D o ds hU hR
 go_enter Tryz.func136,Tryz.ntmps136
 go_wp2_with fail
 refine (R0.next K E1).mono ?_
 rintro e w1 ⟨rfl,R1⟩
 clear R0
 go_wp2_with fail
 refine (R1.next V E2).mono ?_
 rintro e w2 ⟨rfl,R2⟩
 clear R1 E1 E2
 obtain ⟨p0,q0⟩:=R2.two 1 (.slice M.a1 P.tz.length M.c1) rfl
 obtain ⟨p1,q1⟩:=(R2.below (al_below w2 (.cells #[.int .i64 (-1),.int .i64 4294967295,.int .i64 4294967296] 3))).two 1 (.slice M.a1 P.tz.length M.c1) rfl
 obtain ⟨p2,q2⟩:=((R2.below (al_below w2 (.cells #[.int .i64 (-1),.int .i64 4294967295,.int .i64 4294967296] 3))).below (al_below (w2.alloc (.cells #[.int .i64 (-1),.int .i64 4294967295,.int .i64 4294967296] 3)) (.cells #[.int .i64 4294967295] 3))).two 1 (.slice M.a1 P.tz.length M.c1) rfl
 have HM0:=hide ((R2.drew.below (al_below w2.drew (.cells #[.int .i64 (-1),.int .i64 4294967295,.int .i64 4294967296] 3))).below (al_below (w2.drew.alloc (.cells #[.int .i64 (-1),.int .i64 4294967295,.int .i64 4294967296] 3)) (.cells #[.int .i64 4294967295] 3)))
 have HM1:=hide ((R2.below (al_below w2 (.cells #[.int .i64 (-1),.int .i64 4294967295,.int .i64 4294967296] 3))).drew.below (al_below (w2.alloc (.cells #[.int .i64 (-1),.int .i64 4294967295,.int .i64 4294967296] 3)).drew (.cells #[.int .i64 4294967295] 3)))
 have HM2:=hide ((R2.below (al_below w2 (.cells #[.int .i64 (-1),.int .i64 4294967295,.int .i64 4294967296] 3))).below (al_below (w2.alloc (.cells #[.int .i64 (-1),.int .i64 4294967295,.int .i64 4294967296] 3)) (.cells #[.int .i64 4294967295] 3))).drew
 have HM3:=hide ((R2.below (al_below w2 (.cells #[.int .i64 (-1),.int .i64 4294967295,.int .i64 4294967296] 3))).below (al_below (w2.alloc (.cells #[.int .i64 (-1),.int .i64 4294967295,.int .i64 4294967296] 3)) (.cells #[.int .i64 4294967295] 3)))
 have HO0:=hide HM0.out.m.o.t
 have hS0:=HM0.out.m.d.sz
 have HO1:=hide HM1.out.m.o.t
 have hS1:=HM1.out.m.d.sz
 have HO2:=hide HM2.out.m.o.t
 have hS2:=HM2.out.m.d.sz
 have HO3:=hide HM3.out.m.o.t
 have hS3:=HM3.out.m.d.sz
 have HN0:=hide (cells_at (w2.drew.alloc (.cells #[.int .i64 (-1),.int .i64 4294967295,.int .i64 4294967296] 3)) (w2.heap.size+1) _ 3 (clI (4294967295)) rfl (by simp [drw_sz]))
 have HN1:=hide (cells_at (w2.alloc (.cells #[.int .i64 (-1),.int .i64 4294967295,.int .i64 4294967296] 3)).drew (w2.heap.size+1) _ 3 (clI (4294967295)) rfl (by simp [drw_sz]))
 have HN2:=hide (cells_at (w2.alloc (.cells #[.int .i64 (-1),.int .i64 4294967295,.int .i64 4294967296] 3)) (w2.heap.size+1) _ 3 (clI (4294967295)) rfl (by simp [drw_sz]))
 have HN3:=hide (cells_at (w2.alloc (.cells #[.int .i64 (-1),.int .i64 4294967295,.int .i64 4294967296] 3)) (w2.heap.size+1) _ 3 (clI (4294967295)) rfl (by simp [drw_sz]))
 have ct:V.tmod 3=1:=by rw [Int.tmod_eq_emod_of_nonneg y0];exact c1
 obtain ⟨iI,hiI,hz0iI,hz1iI,hz2iI⟩:=info_parts infoI
 have HR2:=hide R2
 clear R2
 go_wp2_with fail
 go_region_law (first
  | (refine step_append_lies _ rfl _ _ 29 rfl w.heap.size 3 iI (.int .i64 0) 1 8 Tryz.underlying29 hiI hz0iI hz1iI hz2iI rfl (by decide) (.slice M.a1 P.tz.length M.c1) P.tz.length (P.tz.flatMap clI) rfl (by first | exact HO0.out | exact HO1.out | exact HO2.out | exact HO3.out) ⟨w2.heap.size+1,0,none⟩ 1 1 (clI (4294967295)) rfl rfl (by first | exact HN0.out | exact HN1.out | exact HN2.out | exact HN3.out) (by intro u hu;simp [clI,clT,clX] at hu;first | (subst hu;rfl) | (rcases hu with rfl | rfl | rfl <;> rfl)) (by decide) (by unfold maxLen;omega) (by omega) (by first | exact hS0 | exact hS1 | exact hS2 | exact hS3) _ rfl ?_;intro g4 c4 w5 hown hgr hat hlt4;obtain ⟨p9,q9⟩:=(show _∧_ from (by first | exact HM0.out.cell4 HO0.out hgr (by decide) 1 (u:=.slice M.a1 P.tz.length M.c1) rfl | exact HM1.out.cell4 HO1.out hgr (by decide) 1 (u:=.slice M.a1 P.tz.length M.c1) rfl | exact HM2.out.cell4 HO2.out hgr (by decide) 1 (u:=.slice M.a1 P.tz.length M.c1) rfl | exact HM3.out.cell4 HO3.out hgr (by decide) 1 (u:=.slice M.a1 P.tz.length M.c1) rfl))))
 all_goals
  have HF:=hide (show MRU U W w (w5.setCell ⟨W.heap.size,1,none⟩ (.slice (some ⟨g4,0,none⟩) (P.tz.length+1) c4)) r a n c zs (k+1+1) W.heap.size (W.heap.size+1) _ _ from (by first | exact MRU.text (x:=4294967295) HM0.out hown hgr hat | exact MRU.text (x:=4294967295) HM1.out hown hgr hat | exact MRU.text (x:=4294967295) HM2.out hown hgr hat | exact MRU.text (x:=4294967295) HM3.out hown hgr hat))
  clear HM0 HO0 HN0 hS0 HM1 HO1 HN1 hS1 HM2 HO2 HN2 hS2 HM3 HO3 HN3 hS3 hown hgr hat hlt4 p9 q9 p0 q0 p1 q1 p2 q2 HR2
  generalize w5.setCell ⟨W.heap.size,1,none⟩ (.slice (some ⟨g4,0,none⟩) (P.tz.length+1) c4)=W5 at *
  obtain ⟨b0,b1,b2,b3,b4,b5,b6,b7⟩:=HF.out.m.box.eight'
  obtain ⟨f0,f1,f2,f3,f4,f5,f6,f7⟩:=HF.out.m.box.froz
  obtain ⟨r0,r1,r2,r3,r4,r5,r6,r7⟩:=z8_cells HF.out.res
  obtain ⟨s0,s1,s2,s3,s4,s5,s6,s7⟩:=HF.out.res.froz
  go_wp2
  refine spl_end HF.out.res rfl _ _ _ _ _ _ _ _ _ _ rfl ?_
  exact spu_fin HF.out _ _ _ _ _ _ _ _ (by simp [modV])
set_option maxHeartbeats 2000000 in
theorem sp3_2 (zs:List Int) (k:Nat) (K V:Int) (E1:Hid (zs.getD k 0=K)) (E2:Hid (zs.getD (k+1) 0=V)) (z0:0≤K) (z1:K≤255) (y0:0≤V) (y1:V≤255) (P:PMod) (DP:DnR P) (c0:K % 12=3) (c1:V % 3=2):SpU zs k P { P with tz:=P.tz++[4294967296] } (k+2):=by
 intro U w W r a n c M D o ds hU hR
 have R0:=mru_spoil D o ds hU hR
 have hs0:=D.sz
 have htl:=DP.t.1
 clear D o ds hU hR
 go_enter Tryz.func136,Tryz.ntmps136
 go_wp2_with fail
 refine (R0.next K E1).mono ?_
 rintro e w1 ⟨rfl,R1⟩
 clear R0
 go_wp2_with fail
 refine (R1.next V E2).mono ?_
 rintro e w2 ⟨rfl,R2⟩
 clear R1 E1 E2
 obtain ⟨p0,q0⟩:=R2.two 1 (.slice M.a1 P.tz.length M.c1) rfl
 obtain ⟨p1,q1⟩:=(R2.below (al_below w2 (.cells #[.int .i64 (-1),.int .i64 4294967295,.int .i64 4294967296] 3))).two 1 (.slice M.a1 P.tz.length M.c1) rfl
 obtain ⟨p2,q2⟩:=((R2.below (al_below w2 (.cells #[.int .i64 (-1),.int .i64 4294967295,.int .i64 4294967296] 3))).below (al_below (w2.alloc (.cells #[.int .i64 (-1),.int .i64 4294967295,.int .i64 4294967296] 3)) (.cells #[.int .i64 4294967296] 3))).two 1 (.slice M.a1 P.tz.length M.c1) rfl
 have HM0:=hide ((R2.drew.below (al_below w2.drew (.cells #[.int .i64 (-1),.int .i64 4294967295,.int .i64 4294967296] 3))).below (al_below (w2.drew.alloc (.cells #[.int .i64 (-1),.int .i64 4294967295,.int .i64 4294967296] 3)) (.cells #[.int .i64 4294967296] 3)))
 have HM1:=hide ((R2.below (al_below w2 (.cells #[.int .i64 (-1),.int .i64 4294967295,.int .i64 4294967296] 3))).drew.below (al_below (w2.alloc (.cells #[.int .i64 (-1),.int .i64 4294967295,.int .i64 4294967296] 3)).drew (.cells #[.int .i64 4294967296] 3)))
 have HM2:=hide ((R2.below (al_below w2 (.cells #[.int .i64 (-1),.int .i64 4294967295,.int .i64 4294967296] 3))).below (al_below (w2.alloc (.cells #[.int .i64 (-1),.int .i64 4294967295,.int .i64 4294967296] 3)) (.cells #[.int .i64 4294967296] 3))).drew
 have HM3:=hide ((R2.below (al_below w2 (.cells #[.int .i64 (-1),.int .i64 4294967295,.int .i64 4294967296] 3))).below (al_below (w2.alloc (.cells #[.int .i64 (-1),.int .i64 4294967295,.int .i64 4294967296] 3)) (.cells #[.int .i64 4294967296] 3)))
 have HO0:=hide HM0.out.m.o.t
 have hS0:=HM0.out.m.d.sz
 have HO1:=hide HM1.out.m.o.t
 have hS1:=HM1.out.m.d.sz
 have HO2:=hide HM2.out.m.o.t
 have hS2:=HM2.out.m.d.sz
 have HO3:=hide HM3.out.m.o.t
 have hS3:=HM3.out.m.d.sz
 have HN0:=hide (cells_at (w2.drew.alloc (.cells #[.int .i64 (-1),.int .i64 4294967295,.int .i64 4294967296] 3)) (w2.heap.size+1) _ 3 (clI (4294967296)) rfl (by simp [drw_sz]))
 have HN1:=hide (cells_at (w2.alloc (.cells #[.int .i64 (-1),.int .i64 4294967295,.int .i64 4294967296] 3)).drew (w2.heap.size+1) _ 3 (clI (4294967296)) rfl (by simp [drw_sz]))
 have HN2:=hide (cells_at (w2.alloc (.cells #[.int .i64 (-1),.int .i64 4294967295,.int .i64 4294967296] 3)) (w2.heap.size+1) _ 3 (clI (4294967296)) rfl (by simp [drw_sz]))
 have HN3:=hide (cells_at (w2.alloc (.cells #[.int .i64 (-1),.int .i64 4294967295,.int .i64 4294967296] 3)) (w2.heap.size+1) _ 3 (clI (4294967296)) rfl (by simp [drw_sz]))
 have ct:V.tmod 3=2:=by rw [Int.tmod_eq_emod_of_nonneg y0];exact c1
 obtain ⟨iI,hiI,hz0iI,hz1iI,hz2iI⟩:=info_parts infoI
 have HR2:=hide R2
 clear R2
 go_wp2_with fail
 go_region_law (first
  | (refine step_append_lies _ rfl _ _ 29 rfl w.heap.size 3 iI (.int .i64 0) 1 8 Tryz.underlying29 hiI hz0iI hz1iI hz2iI rfl (by decide) (.slice M.a1 P.tz.length M.c1) P.tz.length (P.tz.flatMap clI) rfl (by first | exact HO0.out | exact HO1.out | exact HO2.out | exact HO3.out) ⟨w2.heap.size+1,0,none⟩ 1 1 (clI (4294967296)) rfl rfl (by first | exact HN0.out | exact HN1.out | exact HN2.out | exact HN3.out) (by intro u hu;simp [clI,clT,clX] at hu;first | (subst hu;rfl) | (rcases hu with rfl | rfl | rfl <;> rfl)) (by decide) (by unfold maxLen;omega) (by omega) (by first | exact hS0 | exact hS1 | exact hS2 | exact hS3) _ rfl ?_;intro g4 c4 w5 hown hgr hat hlt4;obtain ⟨p9,q9⟩:=(show _∧_ from (by first | exact HM0.out.cell4 HO0.out hgr (by decide) 1 (u:=.slice M.a1 P.tz.length M.c1) rfl | exact HM1.out.cell4 HO1.out hgr (by decide) 1 (u:=.slice M.a1 P.tz.length M.c1) rfl | exact HM2.out.cell4 HO2.out hgr (by decide) 1 (u:=.slice M.a1 P.tz.length M.c1) rfl | exact HM3.out.cell4 HO3.out hgr (by decide) 1 (u:=.slice M.a1 P.tz.length M.c1) rfl))))
 all_goals
  have HF:=hide (show MRU U W w (w5.setCell ⟨W.heap.size,1,none⟩ (.slice (some ⟨g4,0,none⟩) (P.tz.length+1) c4)) r a n c zs (k+1+1) W.heap.size (W.heap.size+1) _ _ from (by first | exact MRU.text (x:=4294967296) HM0.out hown hgr hat | exact MRU.text (x:=4294967296) HM1.out hown hgr hat | exact MRU.text (x:=4294967296) HM2.out hown hgr hat | exact MRU.text (x:=4294967296) HM3.out hown hgr hat))
  clear HM0 HO0 HN0 hS0 HM1 HO1 HN1 hS1 HM2 HO2 HN2 hS2 HM3 HO3 HN3 hS3 hown hgr hat hlt4 p9 q9 p0 q0 p1 q1 p2 q2 HR2
  generalize w5.setCell ⟨W.heap.size,1,none⟩ (.slice (some ⟨g4,0,none⟩) (P.tz.length+1) c4)=W5 at *
  obtain ⟨b0,b1,b2,b3,b4,b5,b6,b7⟩:=HF.out.m.box.eight'
  obtain ⟨f0,f1,f2,f3,f4,f5,f6,f7⟩:=HF.out.m.box.froz
  obtain ⟨r0,r1,r2,r3,r4,r5,r6,r7⟩:=z8_cells HF.out.res
  obtain ⟨s0,s1,s2,s3,s4,s5,s6,s7⟩:=HF.out.res.froz
  go_wp2
  refine spl_end HF.out.res rfl _ _ _ _ _ _ _ _ _ _ rfl ?_
  exact spu_fin HF.out _ _ _ _ _ _ _ _ (by simp [modV])
set_option maxHeartbeats 2000000 in
theorem sp6_0 (zs:List Int) (k:Nat) (K V:Int) (E1:Hid (zs.getD k 0=K)) (E2:Hid (zs.getD (k+1) 0=V)) (z0:0≤K) (z1:K≤255) (y0:0≤V) (y1:V≤255) (P:PMod) (DP:DnR P) (c0:K % 12=6) (c1:V % 5=0):SpU zs k P { P with rz:=P.rz++[2] } (k+2):=by
 intro U w W r a n c M D o ds hU hR
 have R0:=mru_spoil D o ds hU hR
 have hs0:=D.sz
 have hrl:P.rz.length≤1:=by rcases DP.r with e | e <;> rw [e] <;> simp
 have hdl:=DP.d.1
 clear D o ds hU hR
 go_enter Tryz.func136,Tryz.ntmps136
 go_wp2_with fail
 refine (R0.next K E1).mono ?_
 rintro e w1 ⟨rfl,R1⟩
 clear R0
 go_wp2_with fail
 refine (R1.next V E2).mono ?_
 rintro e w2 ⟨rfl,R2⟩
 clear R1 E1 E2
 obtain ⟨p0,q0⟩:=R2.two 5 (.slice M.a5 P.rz.length M.c5) rfl
 obtain ⟨p1,q1⟩:=(R2.below (al_below w2 (.cells #[.int .i64 2,.int .i64 0,.int .i64 ((P.dz.length:Int) - 4),.int .i64 ((P.dz.length:Int)),.int .i64 (-4)] 3))).two 5 (.slice M.a5 P.rz.length M.c5) rfl
 obtain ⟨p2,q2⟩:=((R2.below (al_below w2 (.cells #[.int .i64 2,.int .i64 0,.int .i64 ((P.dz.length:Int) - 4),.int .i64 ((P.dz.length:Int)),.int .i64 (-4)] 3))).below (al_below (w2.alloc (.cells #[.int .i64 2,.int .i64 0,.int .i64 ((P.dz.length:Int) - 4),.int .i64 ((P.dz.length:Int)),.int .i64 (-4)] 3)) (.cells #[.int .i64 2] 3))).two 5 (.slice M.a5 P.rz.length M.c5) rfl
 have HM0:=hide ((R2.drew.below (al_below w2.drew (.cells #[.int .i64 2,.int .i64 0,.int .i64 ((P.dz.length:Int) - 4),.int .i64 ((P.dz.length:Int)),.int .i64 (-4)] 3))).below (al_below (w2.drew.alloc (.cells #[.int .i64 2,.int .i64 0,.int .i64 ((P.dz.length:Int) - 4),.int .i64 ((P.dz.length:Int)),.int .i64 (-4)] 3)) (.cells #[.int .i64 2] 3)))
 have HM1:=hide ((R2.below (al_below w2 (.cells #[.int .i64 2,.int .i64 0,.int .i64 ((P.dz.length:Int) - 4),.int .i64 ((P.dz.length:Int)),.int .i64 (-4)] 3))).drew.below (al_below (w2.alloc (.cells #[.int .i64 2,.int .i64 0,.int .i64 ((P.dz.length:Int) - 4),.int .i64 ((P.dz.length:Int)),.int .i64 (-4)] 3)).drew (.cells #[.int .i64 2] 3)))
 have HM2:=hide ((R2.below (al_below w2 (.cells #[.int .i64 2,.int .i64 0,.int .i64 ((P.dz.length:Int) - 4),.int .i64 ((P.dz.length:Int)),.int .i64 (-4)] 3))).below (al_below (w2.alloc (.cells #[.int .i64 2,.int .i64 0,.int .i64 ((P.dz.length:Int) - 4),.int .i64 ((P.dz.length:Int)),.int .i64 (-4)] 3)) (.cells #[.int .i64 2] 3))).drew
 have HM3:=hide ((R2.below (al_below w2 (.cells #[.int .i64 2,.int .i64 0,.int .i64 ((P.dz.length:Int) - 4),.int .i64 ((P.dz.length:Int)),.int .i64 (-4)] 3))).below (al_below (w2.alloc (.cells #[.int .i64 2,.int .i64 0,.int .i64 ((P.dz.length:Int) - 4),.int .i64 ((P.dz.length:Int)),.int .i64 (-4)] 3)) (.cells #[.int .i64 2] 3)))
 have HO0:=hide HM0.out.m.o.r
 have hS0:=HM0.out.m.d.sz
 have HO1:=hide HM1.out.m.o.r
 have hS1:=HM1.out.m.d.sz
 have HO2:=hide HM2.out.m.o.r
 have hS2:=HM2.out.m.d.sz
 have HO3:=hide HM3.out.m.o.r
 have hS3:=HM3.out.m.d.sz
 have HN0:=hide (cells_at (w2.drew.alloc (.cells #[.int .i64 2,.int .i64 0,.int .i64 ((P.dz.length:Int) - 4),.int .i64 ((P.dz.length:Int)),.int .i64 (-4)] 3)) (w2.heap.size+1) _ 3 (clI (2)) rfl (by simp [drw_sz]))
 have HN1:=hide (cells_at (w2.alloc (.cells #[.int .i64 2,.int .i64 0,.int .i64 ((P.dz.length:Int) - 4),.int .i64 ((P.dz.length:Int)),.int .i64 (-4)] 3)).drew (w2.heap.size+1) _ 3 (clI (2)) rfl (by simp [drw_sz]))
 have HN2:=hide (cells_at (w2.alloc (.cells #[.int .i64 2,.int .i64 0,.int .i64 ((P.dz.length:Int) - 4),.int .i64 ((P.dz.length:Int)),.int .i64 (-4)] 3)) (w2.heap.size+1) _ 3 (clI (2)) rfl (by simp [drw_sz]))
 have HN3:=hide (cells_at (w2.alloc (.cells #[.int .i64 2,.int .i64 0,.int .i64 ((P.dz.length:Int) - 4),.int .i64 ((P.dz.length:Int)),.int .i64 (-4)] 3)) (w2.heap.size+1) _ 3 (clI (2)) rfl (by simp [drw_sz]))
 have ct:V.tmod 5=0:=by rw [Int.tmod_eq_emod_of_nonneg y0];exact c1
 have ew:IntKind.i64.wrap ((P.dz.length:Int) - 4)=(P.dz.length:Int) - 4:=wrap_small _ (by omega) (by omega)
 obtain ⟨pd,qd⟩:=R2.two 3 (.slice M.a3 P.dz.length M.c3) rfl
 obtain ⟨iI,hiI,hz0iI,hz1iI,hz2iI⟩:=info_parts infoI
 have HR2:=hide R2
 clear R2
 go_wp2_with fail
 go_region_law (first
  | (refine step_append_lies _ rfl _ _ 29 rfl w.heap.size 3 iI (.int .i64 0) 1 8 Tryz.underlying29 hiI hz0iI hz1iI hz2iI rfl (by decide) (.slice M.a5 P.rz.length M.c5) P.rz.length (P.rz.flatMap clI) rfl (by first | exact HO0.out | exact HO1.out | exact HO2.out | exact HO3.out) ⟨w2.heap.size+1,0,none⟩ 1 1 (clI (2)) rfl rfl (by first | exact HN0.out | exact HN1.out | exact HN2.out | exact HN3.out) (by intro u hu;simp [clI,clT,clX] at hu;first | (subst hu;rfl) | (rcases hu with rfl | rfl | rfl <;> rfl)) (by decide) (by unfold maxLen;omega) (by omega) (by first | exact hS0 | exact hS1 | exact hS2 | exact hS3) _ rfl ?_;intro g4 c4 w5 hown hgr hat hlt4;obtain ⟨p9,q9⟩:=(show _∧_ from (by first | exact HM0.out.cell4 HO0.out hgr (by decide) 5 (u:=.slice M.a5 P.rz.length M.c5) rfl | exact HM1.out.cell4 HO1.out hgr (by decide) 5 (u:=.slice M.a5 P.rz.length M.c5) rfl | exact HM2.out.cell4 HO2.out hgr (by decide) 5 (u:=.slice M.a5 P.rz.length M.c5) rfl | exact HM3.out.cell4 HO3.out hgr (by decide) 5 (u:=.slice M.a5 P.rz.length M.c5) rfl))))
 all_goals
  have HF:=hide (show MRU U W w (w5.setCell ⟨W.heap.size,5,none⟩ (.slice (some ⟨g4,0,none⟩) (P.rz.length+1) c4)) r a n c zs (k+1+1) W.heap.size (W.heap.size+1) _ _ from (by first | exact MRU.reloc (x:=2) HM0.out hown hgr hat | exact MRU.reloc (x:=2) HM1.out hown hgr hat | exact MRU.reloc (x:=2) HM2.out hown hgr hat | exact MRU.reloc (x:=2) HM3.out hown hgr hat))
  clear HM0 HO0 HN0 hS0 HM1 HO1 HN1 hS1 HM2 HO2 HN2 hS2 HM3 HO3 HN3 hS3 hown hgr hat hlt4 p9 q9 p0 q0 p1 q1 p2 q2 HR2
  generalize w5.setCell ⟨W.heap.size,5,none⟩ (.slice (some ⟨g4,0,none⟩) (P.rz.length+1) c4)=W5 at *
  obtain ⟨b0,b1,b2,b3,b4,b5,b6,b7⟩:=HF.out.m.box.eight'
  obtain ⟨f0,f1,f2,f3,f4,f5,f6,f7⟩:=HF.out.m.box.froz
  obtain ⟨r0,r1,r2,r3,r4,r5,r6,r7⟩:=z8_cells HF.out.res
  obtain ⟨s0,s1,s2,s3,s4,s5,s6,s7⟩:=HF.out.res.froz
  go_wp2
  refine spl_end HF.out.res rfl _ _ _ _ _ _ _ _ _ _ rfl ?_
  exact spu_fin HF.out _ _ _ _ _ _ _ _ (by simp [modV])
set_option maxHeartbeats 2000000 in
theorem sp6_1 (zs:List Int) (k:Nat) (K V:Int) (E1:Hid (zs.getD k 0=K)) (E2:Hid (zs.getD (k+1) 0=V)) (z0:0≤K) (z1:K≤255) (y0:0≤V) (y1:V≤255) (P:PMod) (DP:DnR P) (c0:K % 12=6) (c1:V % 5=1):SpU zs k P { P with rz:=P.rz++[0] } (k+2):=by
 intro U w W r a n c M D o ds hU hR
 have R0:=mru_spoil D o ds hU hR
 have hs0:=D.sz
 have hrl:P.rz.length≤1:=by rcases DP.r with e | e <;> rw [e] <;> simp
 have hdl:=DP.d.1
 clear D o ds hU hR
 go_enter Tryz.func136,Tryz.ntmps136
 go_wp2_with fail
 refine (R0.next K E1).mono ?_
 rintro e w1 ⟨rfl,R1⟩
 clear R0
 go_wp2_with fail
 refine (R1.next V E2).mono ?_
 rintro e w2 ⟨rfl,R2⟩
 clear R1 E1 E2
 obtain ⟨p0,q0⟩:=R2.two 5 (.slice M.a5 P.rz.length M.c5) rfl
 obtain ⟨p1,q1⟩:=(R2.below (al_below w2 (.cells #[.int .i64 2,.int .i64 0,.int .i64 ((P.dz.length:Int) - 4),.int .i64 ((P.dz.length:Int)),.int .i64 (-4)] 3))).two 5 (.slice M.a5 P.rz.length M.c5) rfl
 obtain ⟨p2,q2⟩:=((R2.below (al_below w2 (.cells #[.int .i64 2,.int .i64 0,.int .i64 ((P.dz.length:Int) - 4),.int .i64 ((P.dz.length:Int)),.int .i64 (-4)] 3))).below (al_below (w2.alloc (.cells #[.int .i64 2,.int .i64 0,.int .i64 ((P.dz.length:Int) - 4),.int .i64 ((P.dz.length:Int)),.int .i64 (-4)] 3)) (.cells #[.int .i64 0] 3))).two 5 (.slice M.a5 P.rz.length M.c5) rfl
 have HM0:=hide ((R2.drew.below (al_below w2.drew (.cells #[.int .i64 2,.int .i64 0,.int .i64 ((P.dz.length:Int) - 4),.int .i64 ((P.dz.length:Int)),.int .i64 (-4)] 3))).below (al_below (w2.drew.alloc (.cells #[.int .i64 2,.int .i64 0,.int .i64 ((P.dz.length:Int) - 4),.int .i64 ((P.dz.length:Int)),.int .i64 (-4)] 3)) (.cells #[.int .i64 0] 3)))
 have HM1:=hide ((R2.below (al_below w2 (.cells #[.int .i64 2,.int .i64 0,.int .i64 ((P.dz.length:Int) - 4),.int .i64 ((P.dz.length:Int)),.int .i64 (-4)] 3))).drew.below (al_below (w2.alloc (.cells #[.int .i64 2,.int .i64 0,.int .i64 ((P.dz.length:Int) - 4),.int .i64 ((P.dz.length:Int)),.int .i64 (-4)] 3)).drew (.cells #[.int .i64 0] 3)))
 have HM2:=hide ((R2.below (al_below w2 (.cells #[.int .i64 2,.int .i64 0,.int .i64 ((P.dz.length:Int) - 4),.int .i64 ((P.dz.length:Int)),.int .i64 (-4)] 3))).below (al_below (w2.alloc (.cells #[.int .i64 2,.int .i64 0,.int .i64 ((P.dz.length:Int) - 4),.int .i64 ((P.dz.length:Int)),.int .i64 (-4)] 3)) (.cells #[.int .i64 0] 3))).drew
 have HM3:=hide ((R2.below (al_below w2 (.cells #[.int .i64 2,.int .i64 0,.int .i64 ((P.dz.length:Int) - 4),.int .i64 ((P.dz.length:Int)),.int .i64 (-4)] 3))).below (al_below (w2.alloc (.cells #[.int .i64 2,.int .i64 0,.int .i64 ((P.dz.length:Int) - 4),.int .i64 ((P.dz.length:Int)),.int .i64 (-4)] 3)) (.cells #[.int .i64 0] 3)))
 have HO0:=hide HM0.out.m.o.r
 have hS0:=HM0.out.m.d.sz
 have HO1:=hide HM1.out.m.o.r
 have hS1:=HM1.out.m.d.sz
 have HO2:=hide HM2.out.m.o.r
 have hS2:=HM2.out.m.d.sz
 have HO3:=hide HM3.out.m.o.r
 have hS3:=HM3.out.m.d.sz
 have HN0:=hide (cells_at (w2.drew.alloc (.cells #[.int .i64 2,.int .i64 0,.int .i64 ((P.dz.length:Int) - 4),.int .i64 ((P.dz.length:Int)),.int .i64 (-4)] 3)) (w2.heap.size+1) _ 3 (clI (0)) rfl (by simp [drw_sz]))
 have HN1:=hide (cells_at (w2.alloc (.cells #[.int .i64 2,.int .i64 0,.int .i64 ((P.dz.length:Int) - 4),.int .i64 ((P.dz.length:Int)),.int .i64 (-4)] 3)).drew (w2.heap.size+1) _ 3 (clI (0)) rfl (by simp [drw_sz]))
 have HN2:=hide (cells_at (w2.alloc (.cells #[.int .i64 2,.int .i64 0,.int .i64 ((P.dz.length:Int) - 4),.int .i64 ((P.dz.length:Int)),.int .i64 (-4)] 3)) (w2.heap.size+1) _ 3 (clI (0)) rfl (by simp [drw_sz]))
 have HN3:=hide (cells_at (w2.alloc (.cells #[.int .i64 2,.int .i64 0,.int .i64 ((P.dz.length:Int) - 4),.int .i64 ((P.dz.length:Int)),.int .i64 (-4)] 3)) (w2.heap.size+1) _ 3 (clI (0)) rfl (by simp [drw_sz]))
 have ct:V.tmod 5=1:=by rw [Int.tmod_eq_emod_of_nonneg y0];exact c1
 have ew:IntKind.i64.wrap ((P.dz.length:Int) - 4)=(P.dz.length:Int) - 4:=wrap_small _ (by omega) (by omega)
 obtain ⟨pd,qd⟩:=R2.two 3 (.slice M.a3 P.dz.length M.c3) rfl
 obtain ⟨iI,hiI,hz0iI,hz1iI,hz2iI⟩:=info_parts infoI
 have HR2:=hide R2
 clear R2
 go_wp2_with fail
 go_region_law (first
  | (refine step_append_lies _ rfl _ _ 29 rfl w.heap.size 3 iI (.int .i64 0) 1 8 Tryz.underlying29 hiI hz0iI hz1iI hz2iI rfl (by decide) (.slice M.a5 P.rz.length M.c5) P.rz.length (P.rz.flatMap clI) rfl (by first | exact HO0.out | exact HO1.out | exact HO2.out | exact HO3.out) ⟨w2.heap.size+1,0,none⟩ 1 1 (clI (0)) rfl rfl (by first | exact HN0.out | exact HN1.out | exact HN2.out | exact HN3.out) (by intro u hu;simp [clI,clT,clX] at hu;first | (subst hu;rfl) | (rcases hu with rfl | rfl | rfl <;> rfl)) (by decide) (by unfold maxLen;omega) (by omega) (by first | exact hS0 | exact hS1 | exact hS2 | exact hS3) _ rfl ?_;intro g4 c4 w5 hown hgr hat hlt4;obtain ⟨p9,q9⟩:=(show _∧_ from (by first | exact HM0.out.cell4 HO0.out hgr (by decide) 5 (u:=.slice M.a5 P.rz.length M.c5) rfl | exact HM1.out.cell4 HO1.out hgr (by decide) 5 (u:=.slice M.a5 P.rz.length M.c5) rfl | exact HM2.out.cell4 HO2.out hgr (by decide) 5 (u:=.slice M.a5 P.rz.length M.c5) rfl | exact HM3.out.cell4 HO3.out hgr (by decide) 5 (u:=.slice M.a5 P.rz.length M.c5) rfl))))
 all_goals
  have HF:=hide (show MRU U W w (w5.setCell ⟨W.heap.size,5,none⟩ (.slice (some ⟨g4,0,none⟩) (P.rz.length+1) c4)) r a n c zs (k+1+1) W.heap.size (W.heap.size+1) _ _ from (by first | exact MRU.reloc (x:=0) HM0.out hown hgr hat | exact MRU.reloc (x:=0) HM1.out hown hgr hat | exact MRU.reloc (x:=0) HM2.out hown hgr hat | exact MRU.reloc (x:=0) HM3.out hown hgr hat))
  clear HM0 HO0 HN0 hS0 HM1 HO1 HN1 hS1 HM2 HO2 HN2 hS2 HM3 HO3 HN3 hS3 hown hgr hat hlt4 p9 q9 p0 q0 p1 q1 p2 q2 HR2
  generalize w5.setCell ⟨W.heap.size,5,none⟩ (.slice (some ⟨g4,0,none⟩) (P.rz.length+1) c4)=W5 at *
  obtain ⟨b0,b1,b2,b3,b4,b5,b6,b7⟩:=HF.out.m.box.eight'
  obtain ⟨f0,f1,f2,f3,f4,f5,f6,f7⟩:=HF.out.m.box.froz
  obtain ⟨r0,r1,r2,r3,r4,r5,r6,r7⟩:=z8_cells HF.out.res
  obtain ⟨s0,s1,s2,s3,s4,s5,s6,s7⟩:=HF.out.res.froz
  go_wp2
  refine spl_end HF.out.res rfl _ _ _ _ _ _ _ _ _ _ rfl ?_
  exact spu_fin HF.out _ _ _ _ _ _ _ _ (by simp [modV])
set_option maxHeartbeats 2000000 in
theorem sp6_2 (zs:List Int) (k:Nat) (K V:Int) (E1:Hid (zs.getD k 0=K)) (E2:Hid (zs.getD (k+1) 0=V)) (z0:0≤K) (z1:K≤255) (y0:0≤V) (y1:V≤255) (P:PMod) (DP:DnR P) (c0:K % 12=6) (c1:V % 5=2):SpU zs k P { P with rz:=P.rz++[(P.dz.length:Int) - 4] } (k+2):=by
 intro U w W r a n c M D o ds hU hR
 have R0:=mru_spoil D o ds hU hR
 have hs0:=D.sz
 have hrl:P.rz.length≤1:=by rcases DP.r with e | e <;> rw [e] <;> simp
 have hdl:=DP.d.1
 clear D o ds hU hR
 go_enter Tryz.func136,Tryz.ntmps136
 go_wp2_with fail
 refine (R0.next K E1).mono ?_
 rintro e w1 ⟨rfl,R1⟩
 clear R0
 go_wp2_with fail
 refine (R1.next V E2).mono ?_
 rintro e w2 ⟨rfl,R2⟩
 clear R1 E1 E2
 obtain ⟨p0,q0⟩:=R2.two 5 (.slice M.a5 P.rz.length M.c5) rfl
 obtain ⟨p1,q1⟩:=(R2.below (al_below w2 (.cells #[.int .i64 2,.int .i64 0,.int .i64 ((P.dz.length:Int) - 4),.int .i64 ((P.dz.length:Int)),.int .i64 (-4)] 3))).two 5 (.slice M.a5 P.rz.length M.c5) rfl
 obtain ⟨p2,q2⟩:=((R2.below (al_below w2 (.cells #[.int .i64 2,.int .i64 0,.int .i64 ((P.dz.length:Int) - 4),.int .i64 ((P.dz.length:Int)),.int .i64 (-4)] 3))).below (al_below (w2.alloc (.cells #[.int .i64 2,.int .i64 0,.int .i64 ((P.dz.length:Int) - 4),.int .i64 ((P.dz.length:Int)),.int .i64 (-4)] 3)) (.cells #[.int .i64 ((P.dz.length:Int) - 4)] 3))).two 5 (.slice M.a5 P.rz.length M.c5) rfl
 have HM0:=hide ((R2.drew.below (al_below w2.drew (.cells #[.int .i64 2,.int .i64 0,.int .i64 ((P.dz.length:Int) - 4),.int .i64 ((P.dz.length:Int)),.int .i64 (-4)] 3))).below (al_below (w2.drew.alloc (.cells #[.int .i64 2,.int .i64 0,.int .i64 ((P.dz.length:Int) - 4),.int .i64 ((P.dz.length:Int)),.int .i64 (-4)] 3)) (.cells #[.int .i64 ((P.dz.length:Int) - 4)] 3)))
 have HM1:=hide ((R2.below (al_below w2 (.cells #[.int .i64 2,.int .i64 0,.int .i64 ((P.dz.length:Int) - 4),.int .i64 ((P.dz.length:Int)),.int .i64 (-4)] 3))).drew.below (al_below (w2.alloc (.cells #[.int .i64 2,.int .i64 0,.int .i64 ((P.dz.length:Int) - 4),.int .i64 ((P.dz.length:Int)),.int .i64 (-4)] 3)).drew (.cells #[.int .i64 ((P.dz.length:Int) - 4)] 3)))
 have HM2:=hide ((R2.below (al_below w2 (.cells #[.int .i64 2,.int .i64 0,.int .i64 ((P.dz.length:Int) - 4),.int .i64 ((P.dz.length:Int)),.int .i64 (-4)] 3))).below (al_below (w2.alloc (.cells #[.int .i64 2,.int .i64 0,.int .i64 ((P.dz.length:Int) - 4),.int .i64 ((P.dz.length:Int)),.int .i64 (-4)] 3)) (.cells #[.int .i64 ((P.dz.length:Int) - 4)] 3))).drew
 have HM3:=hide ((R2.below (al_below w2 (.cells #[.int .i64 2,.int .i64 0,.int .i64 ((P.dz.length:Int) - 4),.int .i64 ((P.dz.length:Int)),.int .i64 (-4)] 3))).below (al_below (w2.alloc (.cells #[.int .i64 2,.int .i64 0,.int .i64 ((P.dz.length:Int) - 4),.int .i64 ((P.dz.length:Int)),.int .i64 (-4)] 3)) (.cells #[.int .i64 ((P.dz.length:Int) - 4)] 3)))
 have HO0:=hide HM0.out.m.o.r
 have hS0:=HM0.out.m.d.sz
 have HO1:=hide HM1.out.m.o.r
 have hS1:=HM1.out.m.d.sz
 have HO2:=hide HM2.out.m.o.r
 have hS2:=HM2.out.m.d.sz
 have HO3:=hide HM3.out.m.o.r
 have hS3:=HM3.out.m.d.sz
 have HN0:=hide (cells_at (w2.drew.alloc (.cells #[.int .i64 2,.int .i64 0,.int .i64 ((P.dz.length:Int) - 4),.int .i64 ((P.dz.length:Int)),.int .i64 (-4)] 3)) (w2.heap.size+1) _ 3 (clI ((P.dz.length:Int) - 4)) rfl (by simp [drw_sz]))
 have HN1:=hide (cells_at (w2.alloc (.cells #[.int .i64 2,.int .i64 0,.int .i64 ((P.dz.length:Int) - 4),.int .i64 ((P.dz.length:Int)),.int .i64 (-4)] 3)).drew (w2.heap.size+1) _ 3 (clI ((P.dz.length:Int) - 4)) rfl (by simp [drw_sz]))
 have HN2:=hide (cells_at (w2.alloc (.cells #[.int .i64 2,.int .i64 0,.int .i64 ((P.dz.length:Int) - 4),.int .i64 ((P.dz.length:Int)),.int .i64 (-4)] 3)) (w2.heap.size+1) _ 3 (clI ((P.dz.length:Int) - 4)) rfl (by simp [drw_sz]))
 have HN3:=hide (cells_at (w2.alloc (.cells #[.int .i64 2,.int .i64 0,.int .i64 ((P.dz.length:Int) - 4),.int .i64 ((P.dz.length:Int)),.int .i64 (-4)] 3)) (w2.heap.size+1) _ 3 (clI ((P.dz.length:Int) - 4)) rfl (by simp [drw_sz]))
 have ct:V.tmod 5=2:=by rw [Int.tmod_eq_emod_of_nonneg y0];exact c1
 have ew:IntKind.i64.wrap ((P.dz.length:Int) - 4)=(P.dz.length:Int) - 4:=wrap_small _ (by omega) (by omega)
 obtain ⟨pd,qd⟩:=R2.two 3 (.slice M.a3 P.dz.length M.c3) rfl
 obtain ⟨iI,hiI,hz0iI,hz1iI,hz2iI⟩:=info_parts infoI
 have HR2:=hide R2
 clear R2
 go_wp2_with fail
 go_region_law (first
  | (refine step_append_lies _ rfl _ _ 29 rfl w.heap.size 3 iI (.int .i64 0) 1 8 Tryz.underlying29 hiI hz0iI hz1iI hz2iI rfl (by decide) (.slice M.a5 P.rz.length M.c5) P.rz.length (P.rz.flatMap clI) rfl (by first | exact HO0.out | exact HO1.out | exact HO2.out | exact HO3.out) ⟨w2.heap.size+1,0,none⟩ 1 1 (clI ((P.dz.length:Int) - 4)) rfl rfl (by first | exact HN0.out | exact HN1.out | exact HN2.out | exact HN3.out) (by intro u hu;simp [clI,clT,clX] at hu;first | (subst hu;rfl) | (rcases hu with rfl | rfl | rfl <;> rfl)) (by decide) (by unfold maxLen;omega) (by omega) (by first | exact hS0 | exact hS1 | exact hS2 | exact hS3) _ rfl ?_;intro g4 c4 w5 hown hgr hat hlt4;obtain ⟨p9,q9⟩:=(show _∧_ from (by first | exact HM0.out.cell4 HO0.out hgr (by decide) 5 (u:=.slice M.a5 P.rz.length M.c5) rfl | exact HM1.out.cell4 HO1.out hgr (by decide) 5 (u:=.slice M.a5 P.rz.length M.c5) rfl | exact HM2.out.cell4 HO2.out hgr (by decide) 5 (u:=.slice M.a5 P.rz.length M.c5) rfl | exact HM3.out.cell4 HO3.out hgr (by decide) 5 (u:=.slice M.a5 P.rz.length M.c5) rfl))))
 all_goals
  have HF:=hide (show MRU U W w (w5.setCell ⟨W.heap.size,5,none⟩ (.slice (some ⟨g4,0,none⟩) (P.rz.length+1) c4)) r a n c zs (k+1+1) W.heap.size (W.heap.size+1) _ _ from (by first | exact MRU.reloc (x:=(P.dz.length:Int) - 4) HM0.out hown hgr hat | exact MRU.reloc (x:=(P.dz.length:Int) - 4) HM1.out hown hgr hat | exact MRU.reloc (x:=(P.dz.length:Int) - 4) HM2.out hown hgr hat | exact MRU.reloc (x:=(P.dz.length:Int) - 4) HM3.out hown hgr hat))
  clear HM0 HO0 HN0 hS0 HM1 HO1 HN1 hS1 HM2 HO2 HN2 hS2 HM3 HO3 HN3 hS3 hown hgr hat hlt4 p9 q9 p0 q0 p1 q1 p2 q2 HR2
  generalize w5.setCell ⟨W.heap.size,5,none⟩ (.slice (some ⟨g4,0,none⟩) (P.rz.length+1) c4)=W5 at *
  obtain ⟨b0,b1,b2,b3,b4,b5,b6,b7⟩:=HF.out.m.box.eight'
  obtain ⟨f0,f1,f2,f3,f4,f5,f6,f7⟩:=HF.out.m.box.froz
  obtain ⟨r0,r1,r2,r3,r4,r5,r6,r7⟩:=z8_cells HF.out.res
  obtain ⟨s0,s1,s2,s3,s4,s5,s6,s7⟩:=HF.out.res.froz
  go_wp2
  refine spl_end HF.out.res rfl _ _ _ _ _ _ _ _ _ _ rfl ?_
  exact spu_fin HF.out _ _ _ _ _ _ _ _ (by simp [modV])
set_option maxHeartbeats 2000000 in
theorem sp6_3 (zs:List Int) (k:Nat) (K V:Int) (E1:Hid (zs.getD k 0=K)) (E2:Hid (zs.getD (k+1) 0=V)) (z0:0≤K) (z1:K≤255) (y0:0≤V) (y1:V≤255) (P:PMod) (DP:DnR P) (c0:K % 12=6) (c1:V % 5=3):SpU zs k P { P with rz:=P.rz++[(P.dz.length:Int)] } (k+2):=by
 intro U w W r a n c M D o ds hU hR
 have R0:=mru_spoil D o ds hU hR
 have hs0:=D.sz
 have hrl:P.rz.length≤1:=by rcases DP.r with e | e <;> rw [e] <;> simp
 have hdl:=DP.d.1
 clear D o ds hU hR
 go_enter Tryz.func136,Tryz.ntmps136
 go_wp2_with fail
 refine (R0.next K E1).mono ?_
 rintro e w1 ⟨rfl,R1⟩
 clear R0
 go_wp2_with fail
 refine (R1.next V E2).mono ?_
 rintro e w2 ⟨rfl,R2⟩
 clear R1 E1 E2
 obtain ⟨p0,q0⟩:=R2.two 5 (.slice M.a5 P.rz.length M.c5) rfl
 obtain ⟨p1,q1⟩:=(R2.below (al_below w2 (.cells #[.int .i64 2,.int .i64 0,.int .i64 ((P.dz.length:Int) - 4),.int .i64 ((P.dz.length:Int)),.int .i64 (-4)] 3))).two 5 (.slice M.a5 P.rz.length M.c5) rfl
 obtain ⟨p2,q2⟩:=((R2.below (al_below w2 (.cells #[.int .i64 2,.int .i64 0,.int .i64 ((P.dz.length:Int) - 4),.int .i64 ((P.dz.length:Int)),.int .i64 (-4)] 3))).below (al_below (w2.alloc (.cells #[.int .i64 2,.int .i64 0,.int .i64 ((P.dz.length:Int) - 4),.int .i64 ((P.dz.length:Int)),.int .i64 (-4)] 3)) (.cells #[.int .i64 ((P.dz.length:Int))] 3))).two 5 (.slice M.a5 P.rz.length M.c5) rfl
 have HM0:=hide ((R2.drew.below (al_below w2.drew (.cells #[.int .i64 2,.int .i64 0,.int .i64 ((P.dz.length:Int) - 4),.int .i64 ((P.dz.length:Int)),.int .i64 (-4)] 3))).below (al_below (w2.drew.alloc (.cells #[.int .i64 2,.int .i64 0,.int .i64 ((P.dz.length:Int) - 4),.int .i64 ((P.dz.length:Int)),.int .i64 (-4)] 3)) (.cells #[.int .i64 ((P.dz.length:Int))] 3)))
 have HM1:=hide ((R2.below (al_below w2 (.cells #[.int .i64 2,.int .i64 0,.int .i64 ((P.dz.length:Int) - 4),.int .i64 ((P.dz.length:Int)),.int .i64 (-4)] 3))).drew.below (al_below (w2.alloc (.cells #[.int .i64 2,.int .i64 0,.int .i64 ((P.dz.length:Int) - 4),.int .i64 ((P.dz.length:Int)),.int .i64 (-4)] 3)).drew (.cells #[.int .i64 ((P.dz.length:Int))] 3)))
 have HM2:=hide ((R2.below (al_below w2 (.cells #[.int .i64 2,.int .i64 0,.int .i64 ((P.dz.length:Int) - 4),.int .i64 ((P.dz.length:Int)),.int .i64 (-4)] 3))).below (al_below (w2.alloc (.cells #[.int .i64 2,.int .i64 0,.int .i64 ((P.dz.length:Int) - 4),.int .i64 ((P.dz.length:Int)),.int .i64 (-4)] 3)) (.cells #[.int .i64 ((P.dz.length:Int))] 3))).drew
 have HM3:=hide ((R2.below (al_below w2 (.cells #[.int .i64 2,.int .i64 0,.int .i64 ((P.dz.length:Int) - 4),.int .i64 ((P.dz.length:Int)),.int .i64 (-4)] 3))).below (al_below (w2.alloc (.cells #[.int .i64 2,.int .i64 0,.int .i64 ((P.dz.length:Int) - 4),.int .i64 ((P.dz.length:Int)),.int .i64 (-4)] 3)) (.cells #[.int .i64 ((P.dz.length:Int))] 3)))
 have HO0:=hide HM0.out.m.o.r
 have hS0:=HM0.out.m.d.sz
 have HO1:=hide HM1.out.m.o.r
 have hS1:=HM1.out.m.d.sz
 have HO2:=hide HM2.out.m.o.r
 have hS2:=HM2.out.m.d.sz
 have HO3:=hide HM3.out.m.o.r
 have hS3:=HM3.out.m.d.sz
 have HN0:=hide (cells_at (w2.drew.alloc (.cells #[.int .i64 2,.int .i64 0,.int .i64 ((P.dz.length:Int) - 4),.int .i64 ((P.dz.length:Int)),.int .i64 (-4)] 3)) (w2.heap.size+1) _ 3 (clI ((P.dz.length:Int))) rfl (by simp [drw_sz]))
 have HN1:=hide (cells_at (w2.alloc (.cells #[.int .i64 2,.int .i64 0,.int .i64 ((P.dz.length:Int) - 4),.int .i64 ((P.dz.length:Int)),.int .i64 (-4)] 3)).drew (w2.heap.size+1) _ 3 (clI ((P.dz.length:Int))) rfl (by simp [drw_sz]))
 have HN2:=hide (cells_at (w2.alloc (.cells #[.int .i64 2,.int .i64 0,.int .i64 ((P.dz.length:Int) - 4),.int .i64 ((P.dz.length:Int)),.int .i64 (-4)] 3)) (w2.heap.size+1) _ 3 (clI ((P.dz.length:Int))) rfl (by simp [drw_sz]))
 have HN3:=hide (cells_at (w2.alloc (.cells #[.int .i64 2,.int .i64 0,.int .i64 ((P.dz.length:Int) - 4),.int .i64 ((P.dz.length:Int)),.int .i64 (-4)] 3)) (w2.heap.size+1) _ 3 (clI ((P.dz.length:Int))) rfl (by simp [drw_sz]))
 have ct:V.tmod 5=3:=by rw [Int.tmod_eq_emod_of_nonneg y0];exact c1
 have ew:IntKind.i64.wrap ((P.dz.length:Int) - 4)=(P.dz.length:Int) - 4:=wrap_small _ (by omega) (by omega)
 obtain ⟨pd,qd⟩:=R2.two 3 (.slice M.a3 P.dz.length M.c3) rfl
 obtain ⟨iI,hiI,hz0iI,hz1iI,hz2iI⟩:=info_parts infoI
 have HR2:=hide R2
 clear R2
 go_wp2_with fail
 go_region_law (first
  | (refine step_append_lies _ rfl _ _ 29 rfl w.heap.size 3 iI (.int .i64 0) 1 8 Tryz.underlying29 hiI hz0iI hz1iI hz2iI rfl (by decide) (.slice M.a5 P.rz.length M.c5) P.rz.length (P.rz.flatMap clI) rfl (by first | exact HO0.out | exact HO1.out | exact HO2.out | exact HO3.out) ⟨w2.heap.size+1,0,none⟩ 1 1 (clI ((P.dz.length:Int))) rfl rfl (by first | exact HN0.out | exact HN1.out | exact HN2.out | exact HN3.out) (by intro u hu;simp [clI,clT,clX] at hu;first | (subst hu;rfl) | (rcases hu with rfl | rfl | rfl <;> rfl)) (by decide) (by unfold maxLen;omega) (by omega) (by first | exact hS0 | exact hS1 | exact hS2 | exact hS3) _ rfl ?_;intro g4 c4 w5 hown hgr hat hlt4;obtain ⟨p9,q9⟩:=(show _∧_ from (by first | exact HM0.out.cell4 HO0.out hgr (by decide) 5 (u:=.slice M.a5 P.rz.length M.c5) rfl | exact HM1.out.cell4 HO1.out hgr (by decide) 5 (u:=.slice M.a5 P.rz.length M.c5) rfl | exact HM2.out.cell4 HO2.out hgr (by decide) 5 (u:=.slice M.a5 P.rz.length M.c5) rfl | exact HM3.out.cell4 HO3.out hgr (by decide) 5 (u:=.slice M.a5 P.rz.length M.c5) rfl))))
 all_goals
  have HF:=hide (show MRU U W w (w5.setCell ⟨W.heap.size,5,none⟩ (.slice (some ⟨g4,0,none⟩) (P.rz.length+1) c4)) r a n c zs (k+1+1) W.heap.size (W.heap.size+1) _ _ from (by first | exact MRU.reloc (x:=(P.dz.length:Int)) HM0.out hown hgr hat | exact MRU.reloc (x:=(P.dz.length:Int)) HM1.out hown hgr hat | exact MRU.reloc (x:=(P.dz.length:Int)) HM2.out hown hgr hat | exact MRU.reloc (x:=(P.dz.length:Int)) HM3.out hown hgr hat))
  clear HM0 HO0 HN0 hS0 HM1 HO1 HN1 hS1 HM2 HO2 HN2 hS2 HM3 HO3 HN3 hS3 hown hgr hat hlt4 p9 q9 p0 q0 p1 q1 p2 q2 HR2
  generalize w5.setCell ⟨W.heap.size,5,none⟩ (.slice (some ⟨g4,0,none⟩) (P.rz.length+1) c4)=W5 at *
  obtain ⟨b0,b1,b2,b3,b4,b5,b6,b7⟩:=HF.out.m.box.eight'
  obtain ⟨f0,f1,f2,f3,f4,f5,f6,f7⟩:=HF.out.m.box.froz
  obtain ⟨r0,r1,r2,r3,r4,r5,r6,r7⟩:=z8_cells HF.out.res
  obtain ⟨s0,s1,s2,s3,s4,s5,s6,s7⟩:=HF.out.res.froz
  go_wp2
  refine spl_end HF.out.res rfl _ _ _ _ _ _ _ _ _ _ rfl ?_
  exact spu_fin HF.out _ _ _ _ _ _ _ _ (by simp [modV])
set_option maxHeartbeats 2000000 in
theorem sp6_4 (zs:List Int) (k:Nat) (K V:Int) (E1:Hid (zs.getD k 0=K)) (E2:Hid (zs.getD (k+1) 0=V)) (z0:0≤K) (z1:K≤255) (y0:0≤V) (y1:V≤255) (P:PMod) (DP:DnR P) (c0:K % 12=6) (c1:V % 5=4):SpU zs k P { P with rz:=P.rz++[-4] } (k+2):=by
 intro U w W r a n c M D o ds hU hR
 have R0:=mru_spoil D o ds hU hR
 have hs0:=D.sz
 have hrl:P.rz.length≤1:=by rcases DP.r with e | e <;> rw [e] <;> simp
 have hdl:=DP.d.1
 clear D o ds hU hR
 go_enter Tryz.func136,Tryz.ntmps136
 go_wp2_with fail
 refine (R0.next K E1).mono ?_
 rintro e w1 ⟨rfl,R1⟩
 clear R0
 go_wp2_with fail
 refine (R1.next V E2).mono ?_
 rintro e w2 ⟨rfl,R2⟩
 clear R1 E1 E2
 obtain ⟨p0,q0⟩:=R2.two 5 (.slice M.a5 P.rz.length M.c5) rfl
 obtain ⟨p1,q1⟩:=(R2.below (al_below w2 (.cells #[.int .i64 2,.int .i64 0,.int .i64 ((P.dz.length:Int) - 4),.int .i64 ((P.dz.length:Int)),.int .i64 (-4)] 3))).two 5 (.slice M.a5 P.rz.length M.c5) rfl
 obtain ⟨p2,q2⟩:=((R2.below (al_below w2 (.cells #[.int .i64 2,.int .i64 0,.int .i64 ((P.dz.length:Int) - 4),.int .i64 ((P.dz.length:Int)),.int .i64 (-4)] 3))).below (al_below (w2.alloc (.cells #[.int .i64 2,.int .i64 0,.int .i64 ((P.dz.length:Int) - 4),.int .i64 ((P.dz.length:Int)),.int .i64 (-4)] 3)) (.cells #[.int .i64 (-4)] 3))).two 5 (.slice M.a5 P.rz.length M.c5) rfl
 have HM0:=hide ((R2.drew.below (al_below w2.drew (.cells #[.int .i64 2,.int .i64 0,.int .i64 ((P.dz.length:Int) - 4),.int .i64 ((P.dz.length:Int)),.int .i64 (-4)] 3))).below (al_below (w2.drew.alloc (.cells #[.int .i64 2,.int .i64 0,.int .i64 ((P.dz.length:Int) - 4),.int .i64 ((P.dz.length:Int)),.int .i64 (-4)] 3)) (.cells #[.int .i64 (-4)] 3)))
 have HM1:=hide ((R2.below (al_below w2 (.cells #[.int .i64 2,.int .i64 0,.int .i64 ((P.dz.length:Int) - 4),.int .i64 ((P.dz.length:Int)),.int .i64 (-4)] 3))).drew.below (al_below (w2.alloc (.cells #[.int .i64 2,.int .i64 0,.int .i64 ((P.dz.length:Int) - 4),.int .i64 ((P.dz.length:Int)),.int .i64 (-4)] 3)).drew (.cells #[.int .i64 (-4)] 3)))
 have HM2:=hide ((R2.below (al_below w2 (.cells #[.int .i64 2,.int .i64 0,.int .i64 ((P.dz.length:Int) - 4),.int .i64 ((P.dz.length:Int)),.int .i64 (-4)] 3))).below (al_below (w2.alloc (.cells #[.int .i64 2,.int .i64 0,.int .i64 ((P.dz.length:Int) - 4),.int .i64 ((P.dz.length:Int)),.int .i64 (-4)] 3)) (.cells #[.int .i64 (-4)] 3))).drew
 have HM3:=hide ((R2.below (al_below w2 (.cells #[.int .i64 2,.int .i64 0,.int .i64 ((P.dz.length:Int) - 4),.int .i64 ((P.dz.length:Int)),.int .i64 (-4)] 3))).below (al_below (w2.alloc (.cells #[.int .i64 2,.int .i64 0,.int .i64 ((P.dz.length:Int) - 4),.int .i64 ((P.dz.length:Int)),.int .i64 (-4)] 3)) (.cells #[.int .i64 (-4)] 3)))
 have HO0:=hide HM0.out.m.o.r
 have hS0:=HM0.out.m.d.sz
 have HO1:=hide HM1.out.m.o.r
 have hS1:=HM1.out.m.d.sz
 have HO2:=hide HM2.out.m.o.r
 have hS2:=HM2.out.m.d.sz
 have HO3:=hide HM3.out.m.o.r
 have hS3:=HM3.out.m.d.sz
 have HN0:=hide (cells_at (w2.drew.alloc (.cells #[.int .i64 2,.int .i64 0,.int .i64 ((P.dz.length:Int) - 4),.int .i64 ((P.dz.length:Int)),.int .i64 (-4)] 3)) (w2.heap.size+1) _ 3 (clI (-4)) rfl (by simp [drw_sz]))
 have HN1:=hide (cells_at (w2.alloc (.cells #[.int .i64 2,.int .i64 0,.int .i64 ((P.dz.length:Int) - 4),.int .i64 ((P.dz.length:Int)),.int .i64 (-4)] 3)).drew (w2.heap.size+1) _ 3 (clI (-4)) rfl (by simp [drw_sz]))
 have HN2:=hide (cells_at (w2.alloc (.cells #[.int .i64 2,.int .i64 0,.int .i64 ((P.dz.length:Int) - 4),.int .i64 ((P.dz.length:Int)),.int .i64 (-4)] 3)) (w2.heap.size+1) _ 3 (clI (-4)) rfl (by simp [drw_sz]))
 have HN3:=hide (cells_at (w2.alloc (.cells #[.int .i64 2,.int .i64 0,.int .i64 ((P.dz.length:Int) - 4),.int .i64 ((P.dz.length:Int)),.int .i64 (-4)] 3)) (w2.heap.size+1) _ 3 (clI (-4)) rfl (by simp [drw_sz]))
 have ct:V.tmod 5=4:=by rw [Int.tmod_eq_emod_of_nonneg y0];exact c1
 have ew:IntKind.i64.wrap ((P.dz.length:Int) - 4)=(P.dz.length:Int) - 4:=wrap_small _ (by omega) (by omega)
 obtain ⟨pd,qd⟩:=R2.two 3 (.slice M.a3 P.dz.length M.c3) rfl
 obtain ⟨iI,hiI,hz0iI,hz1iI,hz2iI⟩:=info_parts infoI
 have HR2:=hide R2
 clear R2
 go_wp2_with fail
 go_region_law (first
  | (refine step_append_lies _ rfl _ _ 29 rfl w.heap.size 3 iI (.int .i64 0) 1 8 Tryz.underlying29 hiI hz0iI hz1iI hz2iI rfl (by decide) (.slice M.a5 P.rz.length M.c5) P.rz.length (P.rz.flatMap clI) rfl (by first | exact HO0.out | exact HO1.out | exact HO2.out | exact HO3.out) ⟨w2.heap.size+1,0,none⟩ 1 1 (clI (-4)) rfl rfl (by first | exact HN0.out | exact HN1.out | exact HN2.out | exact HN3.out) (by intro u hu;simp [clI,clT,clX] at hu;first | (subst hu;rfl) | (rcases hu with rfl | rfl | rfl <;> rfl)) (by decide) (by unfold maxLen;omega) (by omega) (by first | exact hS0 | exact hS1 | exact hS2 | exact hS3) _ rfl ?_;intro g4 c4 w5 hown hgr hat hlt4;obtain ⟨p9,q9⟩:=(show _∧_ from (by first | exact HM0.out.cell4 HO0.out hgr (by decide) 5 (u:=.slice M.a5 P.rz.length M.c5) rfl | exact HM1.out.cell4 HO1.out hgr (by decide) 5 (u:=.slice M.a5 P.rz.length M.c5) rfl | exact HM2.out.cell4 HO2.out hgr (by decide) 5 (u:=.slice M.a5 P.rz.length M.c5) rfl | exact HM3.out.cell4 HO3.out hgr (by decide) 5 (u:=.slice M.a5 P.rz.length M.c5) rfl))))
 all_goals
  have HF:=hide (show MRU U W w (w5.setCell ⟨W.heap.size,5,none⟩ (.slice (some ⟨g4,0,none⟩) (P.rz.length+1) c4)) r a n c zs (k+1+1) W.heap.size (W.heap.size+1) _ _ from (by first | exact MRU.reloc (x:=-4) HM0.out hown hgr hat | exact MRU.reloc (x:=-4) HM1.out hown hgr hat | exact MRU.reloc (x:=-4) HM2.out hown hgr hat | exact MRU.reloc (x:=-4) HM3.out hown hgr hat))
  clear HM0 HO0 HN0 hS0 HM1 HO1 HN1 hS1 HM2 HO2 HN2 hS2 HM3 HO3 HN3 hS3 hown hgr hat hlt4 p9 q9 p0 q0 p1 q1 p2 q2 HR2
  generalize w5.setCell ⟨W.heap.size,5,none⟩ (.slice (some ⟨g4,0,none⟩) (P.rz.length+1) c4)=W5 at *
  obtain ⟨b0,b1,b2,b3,b4,b5,b6,b7⟩:=HF.out.m.box.eight'
  obtain ⟨f0,f1,f2,f3,f4,f5,f6,f7⟩:=HF.out.m.box.froz
  obtain ⟨r0,r1,r2,r3,r4,r5,r6,r7⟩:=z8_cells HF.out.res
  obtain ⟨s0,s1,s2,s3,s4,s5,s6,s7⟩:=HF.out.res.froz
  go_wp2
  refine spl_end HF.out.res rfl _ _ _ _ _ _ _ _ _ _ rfl ?_
  exact spu_fin HF.out _ _ _ _ _ _ _ _ (by simp [modV])
end Go.Proofs.YtngdgogjlpjjpadGreat
