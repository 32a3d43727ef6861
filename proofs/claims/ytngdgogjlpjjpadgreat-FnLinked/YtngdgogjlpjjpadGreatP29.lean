import Derived.Test.YtngdgogjlpjjpadGreatP26
namespace Go.Proofs.YtngdgogjlpjjpadGreat
open Go.RowKit
set_option linter.unusedVariables false
set_option linter.unusedSimpArgs false
set_option maxRecDepth 100000
set_option maxHeartbeats 2000000 in
theorem sp7_0 (zs:List Int) (k:Nat) (K V:Int) (E1:Hid (zs.getD k 0=K)) (E2:Hid (zs.getD (k+1) 0=V)) (z0:0≤K) (z1:K≤255) (y0:0≤V) (y1:V≤255) (P:PMod) (DP:DnR P) (c0:K % 12=7) (c1:V % 6=0):SpU zs k P { P with ss:=P.ss++[⟨#[]⟩] } (k+2):=by
 intro U w W r a n c M D o ds hU hR
 have R0:=mru_spoil D o ds hU hR
 have hs0:=D.sz
 have hil:=DP.i.1
 clear D o ds hU hR
 go_enter Tryz.func136,Tryz.ntmps136
 go_wp2_with fail
 refine (R0.next K E1).mono ?_
 rintro e w1 ⟨rfl,R1⟩
 clear R0
 go_wp2_with fail
 refine (R1.next V E2).mono ?_
 rintro e w2 ⟨rfl,R2⟩
 clear R1 E1 E2
 obtain ⟨p0,q0⟩:=R2.two 6 (.slice M.a6 P.ss.length M.c6) rfl
 obtain ⟨p1,q1⟩:=(R2.below (al_below w2 (.cells #[.string ⟨#[]⟩,.string ⟨#[97]⟩,.string ⟨#[97,46]⟩,.string ⟨#[97,46,98]⟩,.string ⟨#[97,46,98,46,99]⟩,.string ⟨#[65,46,98]⟩] 9))).two 6 (.slice M.a6 P.ss.length M.c6) rfl
 obtain ⟨p2,q2⟩:=((R2.below (al_below w2 (.cells #[.string ⟨#[]⟩,.string ⟨#[97]⟩,.string ⟨#[97,46]⟩,.string ⟨#[97,46,98]⟩,.string ⟨#[97,46,98,46,99]⟩,.string ⟨#[65,46,98]⟩] 9))).below (al_below (w2.alloc (.cells #[.string ⟨#[]⟩,.string ⟨#[97]⟩,.string ⟨#[97,46]⟩,.string ⟨#[97,46,98]⟩,.string ⟨#[97,46,98,46,99]⟩,.string ⟨#[65,46,98]⟩] 9)) (.cells #[.string ⟨#[]⟩] 9))).two 6 (.slice M.a6 P.ss.length M.c6) rfl
 have HM0:=hide ((R2.drew.below (al_below w2.drew (.cells #[.string ⟨#[]⟩,.string ⟨#[97]⟩,.string ⟨#[97,46]⟩,.string ⟨#[97,46,98]⟩,.string ⟨#[97,46,98,46,99]⟩,.string ⟨#[65,46,98]⟩] 9))).below (al_below (w2.drew.alloc (.cells #[.string ⟨#[]⟩,.string ⟨#[97]⟩,.string ⟨#[97,46]⟩,.string ⟨#[97,46,98]⟩,.string ⟨#[97,46,98,46,99]⟩,.string ⟨#[65,46,98]⟩] 9)) (.cells #[.string ⟨#[]⟩] 9)))
 have HM1:=hide ((R2.below (al_below w2 (.cells #[.string ⟨#[]⟩,.string ⟨#[97]⟩,.string ⟨#[97,46]⟩,.string ⟨#[97,46,98]⟩,.string ⟨#[97,46,98,46,99]⟩,.string ⟨#[65,46,98]⟩] 9))).drew.below (al_below (w2.alloc (.cells #[.string ⟨#[]⟩,.string ⟨#[97]⟩,.string ⟨#[97,46]⟩,.string ⟨#[97,46,98]⟩,.string ⟨#[97,46,98,46,99]⟩,.string ⟨#[65,46,98]⟩] 9)).drew (.cells #[.string ⟨#[]⟩] 9)))
 have HM2:=hide ((R2.below (al_below w2 (.cells #[.string ⟨#[]⟩,.string ⟨#[97]⟩,.string ⟨#[97,46]⟩,.string ⟨#[97,46,98]⟩,.string ⟨#[97,46,98,46,99]⟩,.string ⟨#[65,46,98]⟩] 9))).below (al_below (w2.alloc (.cells #[.string ⟨#[]⟩,.string ⟨#[97]⟩,.string ⟨#[97,46]⟩,.string ⟨#[97,46,98]⟩,.string ⟨#[97,46,98,46,99]⟩,.string ⟨#[65,46,98]⟩] 9)) (.cells #[.string ⟨#[]⟩] 9))).drew
 have HM3:=hide ((R2.below (al_below w2 (.cells #[.string ⟨#[]⟩,.string ⟨#[97]⟩,.string ⟨#[97,46]⟩,.string ⟨#[97,46,98]⟩,.string ⟨#[97,46,98,46,99]⟩,.string ⟨#[65,46,98]⟩] 9))).below (al_below (w2.alloc (.cells #[.string ⟨#[]⟩,.string ⟨#[97]⟩,.string ⟨#[97,46]⟩,.string ⟨#[97,46,98]⟩,.string ⟨#[97,46,98,46,99]⟩,.string ⟨#[65,46,98]⟩] 9)) (.cells #[.string ⟨#[]⟩] 9)))
 have HO0:=hide HM0.out.m.o.i
 have hS0:=HM0.out.m.d.sz
 have HO1:=hide HM1.out.m.o.i
 have hS1:=HM1.out.m.d.sz
 have HO2:=hide HM2.out.m.o.i
 have hS2:=HM2.out.m.d.sz
 have HO3:=hide HM3.out.m.o.i
 have hS3:=HM3.out.m.d.sz
 have HN0:=hide (cells_at (w2.drew.alloc (.cells #[.string ⟨#[]⟩,.string ⟨#[97]⟩,.string ⟨#[97,46]⟩,.string ⟨#[97,46,98]⟩,.string ⟨#[97,46,98,46,99]⟩,.string ⟨#[65,46,98]⟩] 9)) (w2.heap.size+1) _ 9 (clT ⟨#[]⟩) rfl (by simp [drw_sz]))
 have HN1:=hide (cells_at (w2.alloc (.cells #[.string ⟨#[]⟩,.string ⟨#[97]⟩,.string ⟨#[97,46]⟩,.string ⟨#[97,46,98]⟩,.string ⟨#[97,46,98,46,99]⟩,.string ⟨#[65,46,98]⟩] 9)).drew (w2.heap.size+1) _ 9 (clT ⟨#[]⟩) rfl (by simp [drw_sz]))
 have HN2:=hide (cells_at (w2.alloc (.cells #[.string ⟨#[]⟩,.string ⟨#[97]⟩,.string ⟨#[97,46]⟩,.string ⟨#[97,46,98]⟩,.string ⟨#[97,46,98,46,99]⟩,.string ⟨#[65,46,98]⟩] 9)) (w2.heap.size+1) _ 9 (clT ⟨#[]⟩) rfl (by simp [drw_sz]))
 have HN3:=hide (cells_at (w2.alloc (.cells #[.string ⟨#[]⟩,.string ⟨#[97]⟩,.string ⟨#[97,46]⟩,.string ⟨#[97,46,98]⟩,.string ⟨#[97,46,98,46,99]⟩,.string ⟨#[65,46,98]⟩] 9)) (w2.heap.size+1) _ 9 (clT ⟨#[]⟩) rfl (by simp [drw_sz]))
 have ct:V.tmod 6=0:=by rw [Int.tmod_eq_emod_of_nonneg y0];exact c1
 obtain ⟨iT,hiT,hz0iT,hz1iT,hz2iT⟩:=info_parts infoT
 have HR2:=hide R2
 clear R2
 go_wp2_with fail
 go_region_law (first
  | (refine step_append_lies _ rfl _ _ 46 rfl w.heap.size 9 iT (.string ⟨#[]⟩) 1 16 Tryz.underlying46 hiT hz0iT hz1iT hz2iT rfl (by decide) (.slice M.a6 P.ss.length M.c6) P.ss.length (P.ss.flatMap clT) rfl (by first | exact HO0.out | exact HO1.out | exact HO2.out | exact HO3.out) ⟨w2.heap.size+1,0,none⟩ 1 1 (clT ⟨#[]⟩) rfl rfl (by first | exact HN0.out | exact HN1.out | exact HN2.out | exact HN3.out) (by intro u hu;simp [clI,clT,clX] at hu;first | (subst hu;rfl) | (rcases hu with rfl | rfl | rfl <;> rfl)) (by decide) (by unfold maxLen;omega) (by omega) (by first | exact hS0 | exact hS1 | exact hS2 | exact hS3) _ rfl ?_;intro g4 c4 w5 hown hgr hat hlt4;obtain ⟨p9,q9⟩:=(show _∧_ from (by first | exact HM0.out.cell4 HO0.out hgr (by decide) 6 (u:=.slice M.a6 P.ss.length M.c6) rfl | exact HM1.out.cell4 HO1.out hgr (by decide) 6 (u:=.slice M.a6 P.ss.length M.c6) rfl | exact HM2.out.cell4 HO2.out hgr (by decide) 6 (u:=.slice M.a6 P.ss.length M.c6) rfl | exact HM3.out.cell4 HO3.out hgr (by decide) 6 (u:=.slice M.a6 P.ss.length M.c6) rfl))))
 all_goals
  have HF:=hide (show MRU U W w (w5.setCell ⟨W.heap.size,6,none⟩ (.slice (some ⟨g4,0,none⟩) (P.ss.length+1) c4)) r a n c zs (k+1+1) W.heap.size (W.heap.size+1) _ _ from (by first | exact MRU.imp (x:=⟨#[]⟩) HM0.out hown hgr hat | exact MRU.imp (x:=⟨#[]⟩) HM1.out hown hgr hat | exact MRU.imp (x:=⟨#[]⟩) HM2.out hown hgr hat | exact MRU.imp (x:=⟨#[]⟩) HM3.out hown hgr hat))
  clear HM0 HO0 HN0 hS0 HM1 HO1 HN1 hS1 HM2 HO2 HN2 hS2 HM3 HO3 HN3 hS3 hown hgr hat hlt4 p9 q9 p0 q0 p1 q1 p2 q2 HR2
  generalize w5.setCell ⟨W.heap.size,6,none⟩ (.slice (some ⟨g4,0,none⟩) (P.ss.length+1) c4)=W5 at *
  obtain ⟨b0,b1,b2,b3,b4,b5,b6,b7⟩:=HF.out.m.box.eight'
  obtain ⟨f0,f1,f2,f3,f4,f5,f6,f7⟩:=HF.out.m.box.froz
  obtain ⟨r0,r1,r2,r3,r4,r5,r6,r7⟩:=z8_cells HF.out.res
  obtain ⟨s0,s1,s2,s3,s4,s5,s6,s7⟩:=HF.out.res.froz
  go_wp2
  refine spl_end HF.out.res rfl _ _ _ _ _ _ _ _ _ _ rfl ?_
  exact spu_fin HF.out _ _ _ _ _ _ _ _ (by simp [modV])
set_option maxHeartbeats 2000000 in
theorem sp7_1 (zs:List Int) (k:Nat) (K V:Int) (E1:Hid (zs.getD k 0=K)) (E2:Hid (zs.getD (k+1) 0=V)) (z0:0≤K) (z1:K≤255) (y0:0≤V) (y1:V≤255) (P:PMod) (DP:DnR P) (c0:K % 12=7) (c1:V % 6=1):SpU zs k P { P with ss:=P.ss++[⟨#[97]⟩] } (k+2):=by
 intro U w W r a n c M D o ds hU hR
 have R0:=mru_spoil D o ds hU hR
 have hs0:=D.sz
 have hil:=DP.i.1
 clear D o ds hU hR
 go_enter Tryz.func136,Tryz.ntmps136
 go_wp2_with fail
 refine (R0.next K E1).mono ?_
 rintro e w1 ⟨rfl,R1⟩
 clear R0
 go_wp2_with fail
 refine (R1.next V E2).mono ?_
 rintro e w2 ⟨rfl,R2⟩
 clear R1 E1 E2
 obtain ⟨p0,q0⟩:=R2.two 6 (.slice M.a6 P.ss.length M.c6) rfl
 obtain ⟨p1,q1⟩:=(R2.below (al_below w2 (.cells #[.string ⟨#[]⟩,.string ⟨#[97]⟩,.string ⟨#[97,46]⟩,.string ⟨#[97,46,98]⟩,.string ⟨#[97,46,98,46,99]⟩,.string ⟨#[65,46,98]⟩] 9))).two 6 (.slice M.a6 P.ss.length M.c6) rfl
 obtain ⟨p2,q2⟩:=((R2.below (al_below w2 (.cells #[.string ⟨#[]⟩,.string ⟨#[97]⟩,.string ⟨#[97,46]⟩,.string ⟨#[97,46,98]⟩,.string ⟨#[97,46,98,46,99]⟩,.string ⟨#[65,46,98]⟩] 9))).below (al_below (w2.alloc (.cells #[.string ⟨#[]⟩,.string ⟨#[97]⟩,.string ⟨#[97,46]⟩,.string ⟨#[97,46,98]⟩,.string ⟨#[97,46,98,46,99]⟩,.string ⟨#[65,46,98]⟩] 9)) (.cells #[.string ⟨#[97]⟩] 9))).two 6 (.slice M.a6 P.ss.length M.c6) rfl
 have HM0:=hide ((R2.drew.below (al_below w2.drew (.cells #[.string ⟨#[]⟩,.string ⟨#[97]⟩,.string ⟨#[97,46]⟩,.string ⟨#[97,46,98]⟩,.string ⟨#[97,46,98,46,99]⟩,.string ⟨#[65,46,98]⟩] 9))).below (al_below (w2.drew.alloc (.cells #[.string ⟨#[]⟩,.string ⟨#[97]⟩,.string ⟨#[97,46]⟩,.string ⟨#[97,46,98]⟩,.string ⟨#[97,46,98,46,99]⟩,.string ⟨#[65,46,98]⟩] 9)) (.cells #[.string ⟨#[97]⟩] 9)))
 have HM1:=hide ((R2.below (al_below w2 (.cells #[.string ⟨#[]⟩,.string ⟨#[97]⟩,.string ⟨#[97,46]⟩,.string ⟨#[97,46,98]⟩,.string ⟨#[97,46,98,46,99]⟩,.string ⟨#[65,46,98]⟩] 9))).drew.below (al_below (w2.alloc (.cells #[.string ⟨#[]⟩,.string ⟨#[97]⟩,.string ⟨#[97,46]⟩,.string ⟨#[97,46,98]⟩,.string ⟨#[97,46,98,46,99]⟩,.string ⟨#[65,46,98]⟩] 9)).drew (.cells #[.string ⟨#[97]⟩] 9)))
 have HM2:=hide ((R2.below (al_below w2 (.cells #[.string ⟨#[]⟩,.string ⟨#[97]⟩,.string ⟨#[97,46]⟩,.string ⟨#[97,46,98]⟩,.string ⟨#[97,46,98,46,99]⟩,.string ⟨#[65,46,98]⟩] 9))).below (al_below (w2.alloc (.cells #[.string ⟨#[]⟩,.string ⟨#[97]⟩,.string ⟨#[97,46]⟩,.string ⟨#[97,46,98]⟩,.string ⟨#[97,46,98,46,99]⟩,.string ⟨#[65,46,98]⟩] 9)) (.cells #[.string ⟨#[97]⟩] 9))).drew
 have HM3:=hide ((R2.below (al_below w2 (.cells #[.string ⟨#[]⟩,.string ⟨#[97]⟩,.string ⟨#[97,46]⟩,.string ⟨#[97,46,98]⟩,.string ⟨#[97,46,98,46,99]⟩,.string ⟨#[65,46,98]⟩] 9))).below (al_below (w2.alloc (.cells #[.string ⟨#[]⟩,.string ⟨#[97]⟩,.string ⟨#[97,46]⟩,.string ⟨#[97,46,98]⟩,.string ⟨#[97,46,98,46,99]⟩,.string ⟨#[65,46,98]⟩] 9)) (.cells #[.string ⟨#[97]⟩] 9)))
 have HO0:=hide HM0.out.m.o.i
 have hS0:=HM0.out.m.d.sz
 have HO1:=hide HM1.out.m.o.i
 have hS1:=HM1.out.m.d.sz
 have HO2:=hide HM2.out.m.o.i
 have hS2:=HM2.out.m.d.sz
 have HO3:=hide HM3.out.m.o.i
 have hS3:=HM3.out.m.d.sz
 have HN0:=hide (cells_at (w2.drew.alloc (.cells #[.string ⟨#[]⟩,.string ⟨#[97]⟩,.string ⟨#[97,46]⟩,.string ⟨#[97,46,98]⟩,.string ⟨#[97,46,98,46,99]⟩,.string ⟨#[65,46,98]⟩] 9)) (w2.heap.size+1) _ 9 (clT ⟨#[97]⟩) rfl (by simp [drw_sz]))
 have HN1:=hide (cells_at (w2.alloc (.cells #[.string ⟨#[]⟩,.string ⟨#[97]⟩,.string ⟨#[97,46]⟩,.string ⟨#[97,46,98]⟩,.string ⟨#[97,46,98,46,99]⟩,.string ⟨#[65,46,98]⟩] 9)).drew (w2.heap.size+1) _ 9 (clT ⟨#[97]⟩) rfl (by simp [drw_sz]))
 have HN2:=hide (cells_at (w2.alloc (.cells #[.string ⟨#[]⟩,.string ⟨#[97]⟩,.string ⟨#[97,46]⟩,.string ⟨#[97,46,98]⟩,.string ⟨#[97,46,98,46,99]⟩,.string ⟨#[65,46,98]⟩] 9)) (w2.heap.size+1) _ 9 (clT ⟨#[97]⟩) rfl (by simp [drw_sz]))
 have HN3:=hide (cells_at (w2.alloc (.cells #[.string ⟨#[]⟩,.string ⟨#[97]⟩,.string ⟨#[97,46]⟩,.string ⟨#[97,46,98]⟩,.string ⟨#[97,46,98,46,99]⟩,.string ⟨#[65,46,98]⟩] 9)) (w2.heap.size+1) _ 9 (clT ⟨#[97]⟩) rfl (by simp [drw_sz]))
 have ct:V.tmod 6=1:=by rw [Int.tmod_eq_emod_of_nonneg y0];exact c1
 obtain ⟨iT,hiT,hz0iT,hz1iT,hz2iT⟩:=info_parts infoT
 have HR2:=hide R2
 clear R2
 go_wp2_with fail
 go_region_law (first
  | (refine step_append_lies _ rfl _ _ 46 rfl w.heap.size 9 iT (.string ⟨#[]⟩) 1 16 Tryz.underlying46 hiT hz0iT hz1iT hz2iT rfl (by decide) (.slice M.a6 P.ss.length M.c6) P.ss.length (P.ss.flatMap clT) rfl (by first | exact HO0.out | exact HO1.out | exact HO2.out | exact HO3.out) ⟨w2.heap.size+1,0,none⟩ 1 1 (clT ⟨#[97]⟩) rfl rfl (by first | exact HN0.out | exact HN1.out | exact HN2.out | exact HN3.out) (by intro u hu;simp [clI,clT,clX] at hu;first | (subst hu;rfl) | (rcases hu with rfl | rfl | rfl <;> rfl)) (by decide) (by unfold maxLen;omega) (by omega) (by first | exact hS0 | exact hS1 | exact hS2 | exact hS3) _ rfl ?_;intro g4 c4 w5 hown hgr hat hlt4;obtain ⟨p9,q9⟩:=(show _∧_ from (by first | exact HM0.out.cell4 HO0.out hgr (by decide) 6 (u:=.slice M.a6 P.ss.length M.c6) rfl | exact HM1.out.cell4 HO1.out hgr (by decide) 6 (u:=.slice M.a6 P.ss.length M.c6) rfl | exact HM2.out.cell4 HO2.out hgr (by decide) 6 (u:=.slice M.a6 P.ss.length M.c6) rfl | exact HM3.out.cell4 HO3.out hgr (by decide) 6 (u:=.slice M.a6 P.ss.length M.c6) rfl))))
 all_goals
  have HF:=hide (show MRU U W w (w5.setCell ⟨W.heap.size,6,none⟩ (.slice (some ⟨g4,0,none⟩) (P.ss.length+1) c4)) r a n c zs (k+1+1) W.heap.size (W.heap.size+1) _ _ from (by first | exact MRU.imp (x:=⟨#[97]⟩) HM0.out hown hgr hat | exact MRU.imp (x:=⟨#[97]⟩) HM1.out hown hgr hat | exact MRU.imp (x:=⟨#[97]⟩) HM2.out hown hgr hat | exact MRU.imp (x:=⟨#[97]⟩) HM3.out hown hgr hat))
  clear HM0 HO0 HN0 hS0 HM1 HO1 HN1 hS1 HM2 HO2 HN2 hS2 HM3 HO3 HN3 hS3 hown hgr hat hlt4 p9 q9 p0 q0 p1 q1 p2 q2 HR2
  generalize w5.setCell ⟨W.heap.size,6,none⟩ (.slice (some ⟨g4,0,none⟩) (P.ss.length+1) c4)=W5 at *
  obtain ⟨b0,b1,b2,b3,b4,b5,b6,b7⟩:=HF.out.m.box.eight'
  obtain ⟨f0,f1,f2,f3,f4,f5,f6,f7⟩:=HF.out.m.box.froz
  obtain ⟨r0,r1,r2,r3,r4,r5,r6,r7⟩:=z8_cells HF.out.res
  obtain ⟨s0,s1,s2,s3,s4,s5,s6,s7⟩:=HF.out.res.froz
  go_wp2
  refine spl_end HF.out.res rfl _ _ _ _ _ _ _ _ _ _ rfl ?_
  exact spu_fin HF.out _ _ _ _ _ _ _ _ (by simp [modV])
set_option maxHeartbeats 2000000 in
theorem sp7_2 (zs:List Int) (k:Nat) (K V:Int) (E1:Hid (zs.getD k 0=K)) (E2:Hid (zs.getD (k+1) 0=V)) (z0:0≤K) (z1:K≤255) (y0:0≤V) (y1:V≤255) (P:PMod) (DP:DnR P) (c0:K % 12=7) (c1:V % 6=2):SpU zs k P { P with ss:=P.ss++[⟨#[97,46]⟩] } (k+2):=by
 intro U w W r a n c M D o ds hU hR
 have R0:=mru_spoil D o ds hU hR
 have hs0:=D.sz
 have hil:=DP.i.1
 clear D o ds hU hR
 go_enter Tryz.func136,Tryz.ntmps136
 go_wp2_with fail
 refine (R0.next K E1).mono ?_
 rintro e w1 ⟨rfl,R1⟩
 clear R0
 go_wp2_with fail
 refine (R1.next V E2).mono ?_
 rintro e w2 ⟨rfl,R2⟩
 clear R1 E1 E2
 obtain ⟨p0,q0⟩:=R2.two 6 (.slice M.a6 P.ss.length M.c6) rfl
 obtain ⟨p1,q1⟩:=(R2.below (al_below w2 (.cells #[.string ⟨#[]⟩,.string ⟨#[97]⟩,.string ⟨#[97,46]⟩,.string ⟨#[97,46,98]⟩,.string ⟨#[97,46,98,46,99]⟩,.string ⟨#[65,46,98]⟩] 9))).two 6 (.slice M.a6 P.ss.length M.c6) rfl
 obtain ⟨p2,q2⟩:=((R2.below (al_below w2 (.cells #[.string ⟨#[]⟩,.string ⟨#[97]⟩,.string ⟨#[97,46]⟩,.string ⟨#[97,46,98]⟩,.string ⟨#[97,46,98,46,99]⟩,.string ⟨#[65,46,98]⟩] 9))).below (al_below (w2.alloc (.cells #[.string ⟨#[]⟩,.string ⟨#[97]⟩,.string ⟨#[97,46]⟩,.string ⟨#[97,46,98]⟩,.string ⟨#[97,46,98,46,99]⟩,.string ⟨#[65,46,98]⟩] 9)) (.cells #[.string ⟨#[97,46]⟩] 9))).two 6 (.slice M.a6 P.ss.length M.c6) rfl
 have HM0:=hide ((R2.drew.below (al_below w2.drew (.cells #[.string ⟨#[]⟩,.string ⟨#[97]⟩,.string ⟨#[97,46]⟩,.string ⟨#[97,46,98]⟩,.string ⟨#[97,46,98,46,99]⟩,.string ⟨#[65,46,98]⟩] 9))).below (al_below (w2.drew.alloc (.cells #[.string ⟨#[]⟩,.string ⟨#[97]⟩,.string ⟨#[97,46]⟩,.string ⟨#[97,46,98]⟩,.string ⟨#[97,46,98,46,99]⟩,.string ⟨#[65,46,98]⟩] 9)) (.cells #[.string ⟨#[97,46]⟩] 9)))
 have HM1:=hide ((R2.below (al_below w2 (.cells #[.string ⟨#[]⟩,.string ⟨#[97]⟩,.string ⟨#[97,46]⟩,.string ⟨#[97,46,98]⟩,.string ⟨#[97,46,98,46,99]⟩,.string ⟨#[65,46,98]⟩] 9))).drew.below (al_below (w2.alloc (.cells #[.string ⟨#[]⟩,.string ⟨#[97]⟩,.string ⟨#[97,46]⟩,.string ⟨#[97,46,98]⟩,.string ⟨#[97,46,98,46,99]⟩,.string ⟨#[65,46,98]⟩] 9)).drew (.cells #[.string ⟨#[97,46]⟩] 9)))
 have HM2:=hide ((R2.below (al_below w2 (.cells #[.string ⟨#[]⟩,.string ⟨#[97]⟩,.string ⟨#[97,46]⟩,.string ⟨#[97,46,98]⟩,.string ⟨#[97,46,98,46,99]⟩,.string ⟨#[65,46,98]⟩] 9))).below (al_below (w2.alloc (.cells #[.string ⟨#[]⟩,.string ⟨#[97]⟩,.string ⟨#[97,46]⟩,.string ⟨#[97,46,98]⟩,.string ⟨#[97,46,98,46,99]⟩,.string ⟨#[65,46,98]⟩] 9)) (.cells #[.string ⟨#[97,46]⟩] 9))).drew
 have HM3:=hide ((R2.below (al_below w2 (.cells #[.string ⟨#[]⟩,.string ⟨#[97]⟩,.string ⟨#[97,46]⟩,.string ⟨#[97,46,98]⟩,.string ⟨#[97,46,98,46,99]⟩,.string ⟨#[65,46,98]⟩] 9))).below (al_below (w2.alloc (.cells #[.string ⟨#[]⟩,.string ⟨#[97]⟩,.string ⟨#[97,46]⟩,.string ⟨#[97,46,98]⟩,.string ⟨#[97,46,98,46,99]⟩,.string ⟨#[65,46,98]⟩] 9)) (.cells #[.string ⟨#[97,46]⟩] 9)))
 have HO0:=hide HM0.out.m.o.i
 have hS0:=HM0.out.m.d.sz
 have HO1:=hide HM1.out.m.o.i
 have hS1:=HM1.out.m.d.sz
 have HO2:=hide HM2.out.m.o.i
 have hS2:=HM2.out.m.d.sz
 have HO3:=hide HM3.out.m.o.i
 have hS3:=HM3.out.m.d.sz
 have HN0:=hide (cells_at (w2.drew.alloc (.cells #[.string ⟨#[]⟩,.string ⟨#[97]⟩,.string ⟨#[97,46]⟩,.string ⟨#[97,46,98]⟩,.string ⟨#[97,46,98,46,99]⟩,.string ⟨#[65,46,98]⟩] 9)) (w2.heap.size+1) _ 9 (clT ⟨#[97,46]⟩) rfl (by simp [drw_sz]))
 have HN1:=hide (cells_at (w2.alloc (.cells #[.string ⟨#[]⟩,.string ⟨#[97]⟩,.string ⟨#[97,46]⟩,.string ⟨#[97,46,98]⟩,.string ⟨#[97,46,98,46,99]⟩,.string ⟨#[65,46,98]⟩] 9)).drew (w2.heap.size+1) _ 9 (clT ⟨#[97,46]⟩) rfl (by simp [drw_sz]))
 have HN2:=hide (cells_at (w2.alloc (.cells #[.string ⟨#[]⟩,.string ⟨#[97]⟩,.string ⟨#[97,46]⟩,.string ⟨#[97,46,98]⟩,.string ⟨#[97,46,98,46,99]⟩,.string ⟨#[65,46,98]⟩] 9)) (w2.heap.size+1) _ 9 (clT ⟨#[97,46]⟩) rfl (by simp [drw_sz]))
 have HN3:=hide (cells_at (w2.alloc (.cells #[.string ⟨#[]⟩,.string ⟨#[97]⟩,.string ⟨#[97,46]⟩,.string ⟨#[97,46,98]⟩,.string ⟨#[97,46,98,46,99]⟩,.string ⟨#[65,46,98]⟩] 9)) (w2.heap.size+1) _ 9 (clT ⟨#[97,46]⟩) rfl (by simp [drw_sz]))
 have ct:V.tmod 6=2:=by rw [Int.tmod_eq_emod_of_nonneg y0];exact c1
 obtain ⟨iT,hiT,hz0iT,hz1iT,hz2iT⟩:=info_parts infoT
 have HR2:=hide R2
 clear R2
 go_wp2_with fail
 go_region_law (first
  | (refine step_append_lies _ rfl _ _ 46 rfl w.heap.size 9 iT (.string ⟨#[]⟩) 1 16 Tryz.underlying46 hiT hz0iT hz1iT hz2iT rfl (by decide) (.slice M.a6 P.ss.length M.c6) P.ss.length (P.ss.flatMap clT) rfl (by first | exact HO0.out | exact HO1.out | exact HO2.out | exact HO3.out) ⟨w2.heap.size+1,0,none⟩ 1 1 (clT ⟨#[97,46]⟩) rfl rfl (by first | exact HN0.out | exact HN1.out | exact HN2.out | exact HN3.out) (by intro u hu;simp [clI,clT,clX] at hu;first | (subst hu;rfl) | (rcases hu with rfl | rfl | rfl <;> rfl)) (by decide) (by unfold maxLen;omega) (by omega) (by first | exact hS0 | exact hS1 | exact hS2 | exact hS3) _ rfl ?_;intro g4 c4 w5 hown hgr hat hlt4;obtain ⟨p9,q9⟩:=(show _∧_ from (by first | exact HM0.out.cell4 HO0.out hgr (by decide) 6 (u:=.slice M.a6 P.ss.length M.c6) rfl | exact HM1.out.cell4 HO1.out hgr (by decide) 6 (u:=.slice M.a6 P.ss.length M.c6) rfl | exact HM2.out.cell4 HO2.out hgr (by decide) 6 (u:=.slice M.a6 P.ss.length M.c6) rfl | exact HM3.out.cell4 HO3.out hgr (by decide) 6 (u:=.slice M.a6 P.ss.length M.c6) rfl))))
 all_goals
  have HF:=hide (show MRU U W w (w5.setCell ⟨W.heap.size,6,none⟩ (.slice (some ⟨g4,0,none⟩) (P.ss.length+1) c4)) r a n c zs (k+1+1) W.heap.size (W.heap.size+1) _ _ from (by first | exact MRU.imp (x:=⟨#[97,46]⟩) HM0.out hown hgr hat | exact MRU.imp (x:=⟨#[97,46]⟩) HM1.out hown hgr hat | exact MRU.imp (x:=⟨#[97,46]⟩) HM2.out hown hgr hat | exact MRU.imp (x:=⟨#[97,46]⟩) HM3.out hown hgr hat))
  clear HM0 HO0 HN0 hS0 HM1 HO1 HN1 hS1 HM2 HO2 HN2 hS2 HM3 HO3 HN3 hS3 hown hgr hat hlt4 p9 q9 p0 q0 p1 q1 p2 q2 HR2
  generalize w5.setCell ⟨W.heap.size,6,none⟩ (.slice (some ⟨g4,0,none⟩) (P.ss.length+1) c4)=W5 at *
  obtain ⟨b0,b1,b2,b3,b4,b5,b6,b7⟩:=HF.out.m.box.eight'
  obtain ⟨f0,f1,f2,f3,f4,f5,f6,f7⟩:=HF.out.m.box.froz
  obtain ⟨r0,r1,r2,r3,r4,r5,r6,r7⟩:=z8_cells HF.out.res
  obtain ⟨s0,s1,s2,s3,s4,s5,s6,s7⟩:=HF.out.res.froz
  go_wp2
  refine spl_end HF.out.res rfl _ _ _ _ _ _ _ _ _ _ rfl ?_
  exact spu_fin HF.out _ _ _ _ _ _ _ _ (by simp [modV])
set_option maxHeartbeats 2000000 in
theorem sp7_3 (zs:List Int) (k:Nat) (K V:Int) (E1:Hid (zs.getD k 0=K)) (E2:Hid (zs.getD (k+1) 0=V)) (z0:0≤K) (z1:K≤255) (y0:0≤V) (y1:V≤255) (P:PMod) (DP:DnR P) (c0:K % 12=7) (c1:V % 6=3):SpU zs k P { P with ss:=P.ss++[⟨#[97,46,98]⟩] } (k+2):=by
 intro U w W r a n c M D o ds hU hR
 have R0:=mru_spoil D o ds hU hR
 have hs0:=D.sz
 have hil:=DP.i.1
 clear D o ds hU hR
 go_enter Tryz.func136,Tryz.ntmps136
 go_wp2_with fail
 refine (R0.next K E1).mono ?_
 rintro e w1 ⟨rfl,R1⟩
 clear R0
 go_wp2_with fail
 refine (R1.next V E2).mono ?_
 rintro e w2 ⟨rfl,R2⟩
 clear R1 E1 E2
 obtain ⟨p0,q0⟩:=R2.two 6 (.slice M.a6 P.ss.length M.c6) rfl
 obtain ⟨p1,q1⟩:=(R2.below (al_below w2 (.cells #[.string ⟨#[]⟩,.string ⟨#[97]⟩,.string ⟨#[97,46]⟩,.string ⟨#[97,46,98]⟩,.string ⟨#[97,46,98,46,99]⟩,.string ⟨#[65,46,98]⟩] 9))).two 6 (.slice M.a6 P.ss.length M.c6) rfl
 obtain ⟨p2,q2⟩:=((R2.below (al_below w2 (.cells #[.string ⟨#[]⟩,.string ⟨#[97]⟩,.string ⟨#[97,46]⟩,.string ⟨#[97,46,98]⟩,.string ⟨#[97,46,98,46,99]⟩,.string ⟨#[65,46,98]⟩] 9))).below (al_below (w2.alloc (.cells #[.string ⟨#[]⟩,.string ⟨#[97]⟩,.string ⟨#[97,46]⟩,.string ⟨#[97,46,98]⟩,.string ⟨#[97,46,98,46,99]⟩,.string ⟨#[65,46,98]⟩] 9)) (.cells #[.string ⟨#[97,46,98]⟩] 9))).two 6 (.slice M.a6 P.ss.length M.c6) rfl
 have HM0:=hide ((R2.drew.below (al_below w2.drew (.cells #[.string ⟨#[]⟩,.string ⟨#[97]⟩,.string ⟨#[97,46]⟩,.string ⟨#[97,46,98]⟩,.string ⟨#[97,46,98,46,99]⟩,.string ⟨#[65,46,98]⟩] 9))).below (al_below (w2.drew.alloc (.cells #[.string ⟨#[]⟩,.string ⟨#[97]⟩,.string ⟨#[97,46]⟩,.string ⟨#[97,46,98]⟩,.string ⟨#[97,46,98,46,99]⟩,.string ⟨#[65,46,98]⟩] 9)) (.cells #[.string ⟨#[97,46,98]⟩] 9)))
 have HM1:=hide ((R2.below (al_below w2 (.cells #[.string ⟨#[]⟩,.string ⟨#[97]⟩,.string ⟨#[97,46]⟩,.string ⟨#[97,46,98]⟩,.string ⟨#[97,46,98,46,99]⟩,.string ⟨#[65,46,98]⟩] 9))).drew.below (al_below (w2.alloc (.cells #[.string ⟨#[]⟩,.string ⟨#[97]⟩,.string ⟨#[97,46]⟩,.string ⟨#[97,46,98]⟩,.string ⟨#[97,46,98,46,99]⟩,.string ⟨#[65,46,98]⟩] 9)).drew (.cells #[.string ⟨#[97,46,98]⟩] 9)))
 have HM2:=hide ((R2.below (al_below w2 (.cells #[.string ⟨#[]⟩,.string ⟨#[97]⟩,.string ⟨#[97,46]⟩,.string ⟨#[97,46,98]⟩,.string ⟨#[97,46,98,46,99]⟩,.string ⟨#[65,46,98]⟩] 9))).below (al_below (w2.alloc (.cells #[.string ⟨#[]⟩,.string ⟨#[97]⟩,.string ⟨#[97,46]⟩,.string ⟨#[97,46,98]⟩,.string ⟨#[97,46,98,46,99]⟩,.string ⟨#[65,46,98]⟩] 9)) (.cells #[.string ⟨#[97,46,98]⟩] 9))).drew
 have HM3:=hide ((R2.below (al_below w2 (.cells #[.string ⟨#[]⟩,.string ⟨#[97]⟩,.string ⟨#[97,46]⟩,.string ⟨#[97,46,98]⟩,.string ⟨#[97,46,98,46,99]⟩,.string ⟨#[65,46,98]⟩] 9))).below (al_below (w2.alloc (.cells #[.string ⟨#[]⟩,.string ⟨#[97]⟩,.string ⟨#[97,46]⟩,.string ⟨#[97,46,98]⟩,.string ⟨#[97,46,98,46,99]⟩,.string ⟨#[65,46,98]⟩] 9)) (.cells #[.string ⟨#[97,46,98]⟩] 9)))
 have HO0:=hide HM0.out.m.o.i
 have hS0:=HM0.out.m.d.sz
 have HO1:=hide HM1.out.m.o.i
 have hS1:=HM1.out.m.d.sz
 have HO2:=hide HM2.out.m.o.i
 have hS2:=HM2.out.m.d.sz
 have HO3:=hide HM3.out.m.o.i
 have hS3:=HM3.out.m.d.sz
 have HN0:=hide (cells_at (w2.drew.alloc (.cells #[.string ⟨#[]⟩,.string ⟨#[97]⟩,.string ⟨#[97,46]⟩,.string ⟨#[97,46,98]⟩,.string ⟨#[97,46,98,46,99]⟩,.string ⟨#[65,46,98]⟩] 9)) (w2.heap.size+1) _ 9 (clT ⟨#[97,46,98]⟩) rfl (by simp [drw_sz]))
 have HN1:=hide (cells_at (w2.alloc (.cells #[.string ⟨#[]⟩,.string ⟨#[97]⟩,.string ⟨#[97,46]⟩,.string ⟨#[97,46,98]⟩,.string ⟨#[97,46,98,46,99]⟩,.string ⟨#[65,46,98]⟩] 9)).drew (w2.heap.size+1) _ 9 (clT ⟨#[97,46,98]⟩) rfl (by simp [drw_sz]))
 have HN2:=hide (cells_at (w2.alloc (.cells #[.string ⟨#[]⟩,.string ⟨#[97]⟩,.string ⟨#[97,46]⟩,.string ⟨#[97,46,98]⟩,.string ⟨#[97,46,98,46,99]⟩,.string ⟨#[65,46,98]⟩] 9)) (w2.heap.size+1) _ 9 (clT ⟨#[97,46,98]⟩) rfl (by simp [drw_sz]))
 have HN3:=hide (cells_at (w2.alloc (.cells #[.string ⟨#[]⟩,.string ⟨#[97]⟩,.string ⟨#[97,46]⟩,.string ⟨#[97,46,98]⟩,.string ⟨#[97,46,98,46,99]⟩,.string ⟨#[65,46,98]⟩] 9)) (w2.heap.size+1) _ 9 (clT ⟨#[97,46,98]⟩) rfl (by simp [drw_sz]))
 have ct:V.tmod 6=3:=by rw [Int.tmod_eq_emod_of_nonneg y0];exact c1
 obtain ⟨iT,hiT,hz0iT,hz1iT,hz2iT⟩:=info_parts infoT
 have HR2:=hide R2
 clear R2
 go_wp2_with fail
 go_region_law (first
  | (refine step_append_lies _ rfl _ _ 46 rfl w.heap.size 9 iT (.string ⟨#[]⟩) 1 16 Tryz.underlying46 hiT hz0iT hz1iT hz2iT rfl (by decide) (.slice M.a6 P.ss.length M.c6) P.ss.length (P.ss.flatMap clT) rfl (by first | exact HO0.out | exact HO1.out | exact HO2.out | exact HO3.out) ⟨w2.heap.size+1,0,none⟩ 1 1 (clT ⟨#[97,46,98]⟩) rfl rfl (by first | exact HN0.out | exact HN1.out | exact HN2.out | exact HN3.out) (by intro u hu;simp [clI,clT,clX] at hu;first | (subst hu;rfl) | (rcases hu with rfl | rfl | rfl <;> rfl)) (by decide) (by unfold maxLen;omega) (by omega) (by first | exact hS0 | exact hS1 | exact hS2 | exact hS3) _ rfl ?_;intro g4 c4 w5 hown hgr hat hlt4;obtain ⟨p9,q9⟩:=(show _∧_ from (by first | exact HM0.out.cell4 HO0.out hgr (by decide) 6 (u:=.slice M.a6 P.ss.length M.c6) rfl | exact HM1.out.cell4 HO1.out hgr (by decide) 6 (u:=.slice M.a6 P.ss.length M.c6) rfl | exact HM2.out.cell4 HO2.out hgr (by decide) 6 (u:=.slice M.a6 P.ss.length M.c6) rfl | exact HM3.out.cell4 HO3.out hgr (by decide) 6 (u:=.slice M.a6 P.ss.length M.c6) rfl))))
 all_goals
  have HF:=hide (show MRU U W w (w5.setCell ⟨W.heap.size,6,none⟩ (.slice (some ⟨g4,0,none⟩) (P.ss.length+1) c4)) r a n c zs (k+1+1) W.heap.size (W.heap.size+1) _ _ from (by first | exact MRU.imp (x:=⟨#[97,46,98]⟩) HM0.out hown hgr hat | exact MRU.imp (x:=⟨#[97,46,98]⟩) HM1.out hown hgr hat | exact MRU.imp (x:=⟨#[97,46,98]⟩) HM2.out hown hgr hat | exact MRU.imp (x:=⟨#[97,46,98]⟩) HM3.out hown hgr hat))
  clear HM0 HO0 HN0 hS0 HM1 HO1 HN1 hS1 HM2 HO2 HN2 hS2 HM3 HO3 HN3 hS3 hown hgr hat hlt4 p9 q9 p0 q0 p1 q1 p2 q2 HR2
  generalize w5.setCell ⟨W.heap.size,6,none⟩ (.slice (some ⟨g4,0,none⟩) (P.ss.length+1) c4)=W5 at *
  obtain ⟨b0,b1,b2,b3,b4,b5,b6,b7⟩:=HF.out.m.box.eight'
  obtain ⟨f0,f1,f2,f3,f4,f5,f6,f7⟩:=HF.out.m.box.froz
  obtain ⟨r0,r1,r2,r3,r4,r5,r6,r7⟩:=z8_cells HF.out.res
  obtain ⟨s0,s1,s2,s3,s4,s5,s6,s7⟩:=HF.out.res.froz
  go_wp2
  refine spl_end HF.out.res rfl _ _ _ _ _ _ _ _ _ _ rfl ?_
  exact spu_fin HF.out _ _ _ _ _ _ _ _ (by simp [modV])
set_option maxHeartbeats 2000000 in
theorem sp7_4 (zs:List Int) (k:Nat) (K V:Int) (E1:Hid (zs.getD k 0=K)) (E2:Hid (zs.getD (k+1) 0=V)) (z0:0≤K) (z1:K≤255) (y0:0≤V) (y1:V≤255) (P:PMod) (DP:DnR P) (c0:K % 12=7) (c1:V % 6=4):SpU zs k P { P with ss:=P.ss++[⟨#[97,46,98,46,99]⟩] } (k+2):=by
 intro U w W r a n c M D o ds hU hR
 have R0:=mru_spoil D o ds hU hR
 have hs0:=D.sz
 have hil:=DP.i.1
 clear D o ds hU hR
 go_enter Tryz.func136,Tryz.ntmps136
 go_wp2_with fail
 refine (R0.next K E1).mono ?_
 rintro e w1 ⟨rfl,R1⟩
 clear R0
 go_wp2_with fail
 refine (R1.next V E2).mono ?_
 rintro e w2 ⟨rfl,R2⟩
 clear R1 E1 E2
 obtain ⟨p0,q0⟩:=R2.two 6 (.slice M.a6 P.ss.length M.c6) rfl
 obtain ⟨p1,q1⟩:=(R2.below (al_below w2 (.cells #[.string ⟨#[]⟩,.string ⟨#[97]⟩,.string ⟨#[97,46]⟩,.string ⟨#[97,46,98]⟩,.string ⟨#[97,46,98,46,99]⟩,.string ⟨#[65,46,98]⟩] 9))).two 6 (.slice M.a6 P.ss.length M.c6) rfl
 obtain ⟨p2,q2⟩:=((R2.below (al_below w2 (.cells #[.string ⟨#[]⟩,.string ⟨#[97]⟩,.string ⟨#[97,46]⟩,.string ⟨#[97,46,98]⟩,.string ⟨#[97,46,98,46,99]⟩,.string ⟨#[65,46,98]⟩] 9))).below (al_below (w2.alloc (.cells #[.string ⟨#[]⟩,.string ⟨#[97]⟩,.string ⟨#[97,46]⟩,.string ⟨#[97,46,98]⟩,.string ⟨#[97,46,98,46,99]⟩,.string ⟨#[65,46,98]⟩] 9)) (.cells #[.string ⟨#[97,46,98,46,99]⟩] 9))).two 6 (.slice M.a6 P.ss.length M.c6) rfl
 have HM0:=hide ((R2.drew.below (al_below w2.drew (.cells #[.string ⟨#[]⟩,.string ⟨#[97]⟩,.string ⟨#[97,46]⟩,.string ⟨#[97,46,98]⟩,.string ⟨#[97,46,98,46,99]⟩,.string ⟨#[65,46,98]⟩] 9))).below (al_below (w2.drew.alloc (.cells #[.string ⟨#[]⟩,.string ⟨#[97]⟩,.string ⟨#[97,46]⟩,.string ⟨#[97,46,98]⟩,.string ⟨#[97,46,98,46,99]⟩,.string ⟨#[65,46,98]⟩] 9)) (.cells #[.string ⟨#[97,46,98,46,99]⟩] 9)))
 have HM1:=hide ((R2.below (al_below w2 (.cells #[.string ⟨#[]⟩,.string ⟨#[97]⟩,.string ⟨#[97,46]⟩,.string ⟨#[97,46,98]⟩,.string ⟨#[97,46,98,46,99]⟩,.string ⟨#[65,46,98]⟩] 9))).drew.below (al_below (w2.alloc (.cells #[.string ⟨#[]⟩,.string ⟨#[97]⟩,.string ⟨#[97,46]⟩,.string ⟨#[97,46,98]⟩,.string ⟨#[97,46,98,46,99]⟩,.string ⟨#[65,46,98]⟩] 9)).drew (.cells #[.string ⟨#[97,46,98,46,99]⟩] 9)))
 have HM2:=hide ((R2.below (al_below w2 (.cells #[.string ⟨#[]⟩,.string ⟨#[97]⟩,.string ⟨#[97,46]⟩,.string ⟨#[97,46,98]⟩,.string ⟨#[97,46,98,46,99]⟩,.string ⟨#[65,46,98]⟩] 9))).below (al_below (w2.alloc (.cells #[.string ⟨#[]⟩,.string ⟨#[97]⟩,.string ⟨#[97,46]⟩,.string ⟨#[97,46,98]⟩,.string ⟨#[97,46,98,46,99]⟩,.string ⟨#[65,46,98]⟩] 9)) (.cells #[.string ⟨#[97,46,98,46,99]⟩] 9))).drew
 have HM3:=hide ((R2.below (al_below w2 (.cells #[.string ⟨#[]⟩,.string ⟨#[97]⟩,.string ⟨#[97,46]⟩,.string ⟨#[97,46,98]⟩,.string ⟨#[97,46,98,46,99]⟩,.string ⟨#[65,46,98]⟩] 9))).below (al_below (w2.alloc (.cells #[.string ⟨#[]⟩,.string ⟨#[97]⟩,.string ⟨#[97,46]⟩,.string ⟨#[97,46,98]⟩,.string ⟨#[97,46,98,46,99]⟩,.string ⟨#[65,46,98]⟩] 9)) (.cells #[.string ⟨#[97,46,98,46,99]⟩] 9)))
 have HO0:=hide HM0.out.m.o.i
 have hS0:=HM0.out.m.d.sz
 have HO1:=hide HM1.out.m.o.i
 have hS1:=HM1.out.m.d.sz
 have HO2:=hide HM2.out.m.o.i
 have hS2:=HM2.out.m.d.sz
 have HO3:=hide HM3.out.m.o.i
 have hS3:=HM3.out.m.d.sz
 have HN0:=hide (cells_at (w2.drew.alloc (.cells #[.string ⟨#[]⟩,.string ⟨#[97]⟩,.string ⟨#[97,46]⟩,.string ⟨#[97,46,98]⟩,.string ⟨#[97,46,98,46,99]⟩,.string ⟨#[65,46,98]⟩] 9)) (w2.heap.size+1) _ 9 (clT ⟨#[97,46,98,46,99]⟩) rfl (by simp [drw_sz]))
 have HN1:=hide (cells_at (w2.alloc (.cells #[.string ⟨#[]⟩,.string ⟨#[97]⟩,.string ⟨#[97,46]⟩,.string ⟨#[97,46,98]⟩,.string ⟨#[97,46,98,46,99]⟩,.string ⟨#[65,46,98]⟩] 9)).drew (w2.heap.size+1) _ 9 (clT ⟨#[97,46,98,46,99]⟩) rfl (by simp [drw_sz]))
 have HN2:=hide (cells_at (w2.alloc (.cells #[.string ⟨#[]⟩,.string ⟨#[97]⟩,.string ⟨#[97,46]⟩,.string ⟨#[97,46,98]⟩,.string ⟨#[97,46,98,46,99]⟩,.string ⟨#[65,46,98]⟩] 9)) (w2.heap.size+1) _ 9 (clT ⟨#[97,46,98,46,99]⟩) rfl (by simp [drw_sz]))
 have HN3:=hide (cells_at (w2.alloc (.cells #[.string ⟨#[]⟩,.string ⟨#[97]⟩,.string ⟨#[97,46]⟩,.string ⟨#[97,46,98]⟩,.string ⟨#[97,46,98,46,99]⟩,.string ⟨#[65,46,98]⟩] 9)) (w2.heap.size+1) _ 9 (clT ⟨#[97,46,98,46,99]⟩) rfl (by simp [drw_sz]))
 have ct:V.tmod 6=4:=by rw [Int.tmod_eq_emod_of_nonneg y0];exact c1
 obtain ⟨iT,hiT,hz0iT,hz1iT,hz2iT⟩:=info_parts infoT
 have HR2:=hide R2
 clear R2
 go_wp2_with fail
 go_region_law (first
  | (refine step_append_lies _ rfl _ _ 46 rfl w.heap.size 9 iT (.string ⟨#[]⟩) 1 16 Tryz.underlying46 hiT hz0iT hz1iT hz2iT rfl (by decide) (.slice M.a6 P.ss.length M.c6) P.ss.length (P.ss.flatMap clT) rfl (by first | exact HO0.out | exact HO1.out | exact HO2.out | exact HO3.out) ⟨w2.heap.size+1,0,none⟩ 1 1 (clT ⟨#[97,46,98,46,99]⟩) rfl rfl (by first | exact HN0.out | exact HN1.out | exact HN2.out | exact HN3.out) (by intro u hu;simp [clI,clT,clX] at hu;first | (subst hu;rfl) | (rcases hu with rfl | rfl | rfl <;> rfl)) (by decide) (by unfold maxLen;omega) (by omega) (by first | exact hS0 | exact hS1 | exact hS2 | exact hS3) _ rfl ?_;intro g4 c4 w5 hown hgr hat hlt4;obtain ⟨p9,q9⟩:=(show _∧_ from (by first | exact HM0.out.cell4 HO0.out hgr (by decide) 6 (u:=.slice M.a6 P.ss.length M.c6) rfl | exact HM1.out.cell4 HO1.out hgr (by decide) 6 (u:=.slice M.a6 P.ss.length M.c6) rfl | exact HM2.out.cell4 HO2.out hgr (by decide) 6 (u:=.slice M.a6 P.ss.length M.c6) rfl | exact HM3.out.cell4 HO3.out hgr (by decide) 6 (u:=.slice M.a6 P.ss.length M.c6) rfl))))
 all_goals
  have HF:=hide (show MRU U W w (w5.setCell ⟨W.heap.size,6,none⟩ (.slice (some ⟨g4,0,none⟩) (P.ss.length+1) c4)) r a n c zs (k+1+1) W.heap.size (W.heap.size+1) _ _ from (by first | exact MRU.imp (x:=⟨#[97,46,98,46,99]⟩) HM0.out hown hgr hat | exact MRU.imp (x:=⟨#[97,46,98,46,99]⟩) HM1.out hown hgr hat | exact MRU.imp (x:=⟨#[97,46,98,46,99]⟩) HM2.out hown hgr hat | exact MRU.imp (x:=⟨#[97,46,98,46,99]⟩) HM3.out hown hgr hat))
  clear HM0 HO0 HN0 hS0 HM1 HO1 HN1 hS1 HM2 HO2 HN2 hS2 HM3 HO3 HN3 hS3 hown hgr hat hlt4 p9 q9 p0 q0 p1 q1 p2 q2 HR2
  generalize w5.setCell ⟨W.heap.size,6,none⟩ (.slice (some ⟨g4,0,none⟩) (P.ss.length+1) c4)=W5 at *
  obtain ⟨b0,b1,b2,b3,b4,b5,b6,b7⟩:=HF.out.m.box.eight'
  obtain ⟨f0,f1,f2,f3,f4,f5,f6,f7⟩:=HF.out.m.box.froz
  obtain ⟨r0,r1,r2,r3,r4,r5,r6,r7⟩:=z8_cells HF.out.res
  obtain ⟨s0,s1,s2,s3,s4,s5,s6,s7⟩:=HF.out.res.froz
  go_wp2
  refine spl_end HF.out.res rfl _ _ _ _ _ _ _ _ _ _ rfl ?_
  exact spu_fin HF.out _ _ _ _ _ _ _ _ (by simp [modV])
set_option maxHeartbeats 2000000 in
theorem sp7_5 (zs:List Int) (k:Nat) (K V:Int) (E1:Hid (zs.getD k 0=K)) (E2:Hid (zs.getD (k+1) 0=V)) (z0:0≤K) (z1:K≤255) (y0:0≤V) (y1:V≤255) (P:PMod) (DP:DnR P) (c0:K % 12=7) (c1:V % 6=5):SpU zs k P { P with ss:=P.ss++[⟨#[65,46,98]⟩] } (k+2):=by
 intro U w W r a n c M D o ds hU hR
 have R0:=mru_spoil D o ds hU hR
 have hs0:=D.sz
 have hil:=DP.i.1
 clear D o ds hU hR
 go_enter Tryz.func136,Tryz.ntmps136
 go_wp2_with fail
 refine (R0.next K E1).mono ?_
 rintro e w1 ⟨rfl,R1⟩
 clear R0
 go_wp2_with fail
 refine (R1.next V E2).mono ?_
 rintro e w2 ⟨rfl,R2⟩
 clear R1 E1 E2
 obtain ⟨p0,q0⟩:=R2.two 6 (.slice M.a6 P.ss.length M.c6) rfl
 obtain ⟨p1,q1⟩:=(R2.below (al_below w2 (.cells #[.string ⟨#[]⟩,.string ⟨#[97]⟩,.string ⟨#[97,46]⟩,.string ⟨#[97,46,98]⟩,.string ⟨#[97,46,98,46,99]⟩,.string ⟨#[65,46,98]⟩] 9))).two 6 (.slice M.a6 P.ss.length M.c6) rfl
 obtain ⟨p2,q2⟩:=((R2.below (al_below w2 (.cells #[.string ⟨#[]⟩,.string ⟨#[97]⟩,.string ⟨#[97,46]⟩,.string ⟨#[97,46,98]⟩,.string ⟨#[97,46,98,46,99]⟩,.string ⟨#[65,46,98]⟩] 9))).below (al_below (w2.alloc (.cells #[.string ⟨#[]⟩,.string ⟨#[97]⟩,.string ⟨#[97,46]⟩,.string ⟨#[97,46,98]⟩,.string ⟨#[97,46,98,46,99]⟩,.string ⟨#[65,46,98]⟩] 9)) (.cells #[.string ⟨#[65,46,98]⟩] 9))).two 6 (.slice M.a6 P.ss.length M.c6) rfl
 have HM0:=hide ((R2.drew.below (al_below w2.drew (.cells #[.string ⟨#[]⟩,.string ⟨#[97]⟩,.string ⟨#[97,46]⟩,.string ⟨#[97,46,98]⟩,.string ⟨#[97,46,98,46,99]⟩,.string ⟨#[65,46,98]⟩] 9))).below (al_below (w2.drew.alloc (.cells #[.string ⟨#[]⟩,.string ⟨#[97]⟩,.string ⟨#[97,46]⟩,.string ⟨#[97,46,98]⟩,.string ⟨#[97,46,98,46,99]⟩,.string ⟨#[65,46,98]⟩] 9)) (.cells #[.string ⟨#[65,46,98]⟩] 9)))
 have HM1:=hide ((R2.below (al_below w2 (.cells #[.string ⟨#[]⟩,.string ⟨#[97]⟩,.string ⟨#[97,46]⟩,.string ⟨#[97,46,98]⟩,.string ⟨#[97,46,98,46,99]⟩,.string ⟨#[65,46,98]⟩] 9))).drew.below (al_below (w2.alloc (.cells #[.string ⟨#[]⟩,.string ⟨#[97]⟩,.string ⟨#[97,46]⟩,.string ⟨#[97,46,98]⟩,.string ⟨#[97,46,98,46,99]⟩,.string ⟨#[65,46,98]⟩] 9)).drew (.cells #[.string ⟨#[65,46,98]⟩] 9)))
 have HM2:=hide ((R2.below (al_below w2 (.cells #[.string ⟨#[]⟩,.string ⟨#[97]⟩,.string ⟨#[97,46]⟩,.string ⟨#[97,46,98]⟩,.string ⟨#[97,46,98,46,99]⟩,.string ⟨#[65,46,98]⟩] 9))).below (al_below (w2.alloc (.cells #[.string ⟨#[]⟩,.string ⟨#[97]⟩,.string ⟨#[97,46]⟩,.string ⟨#[97,46,98]⟩,.string ⟨#[97,46,98,46,99]⟩,.string ⟨#[65,46,98]⟩] 9)) (.cells #[.string ⟨#[65,46,98]⟩] 9))).drew
 have HM3:=hide ((R2.below (al_below w2 (.cells #[.string ⟨#[]⟩,.string ⟨#[97]⟩,.string ⟨#[97,46]⟩,.string ⟨#[97,46,98]⟩,.string ⟨#[97,46,98,46,99]⟩,.string ⟨#[65,46,98]⟩] 9))).below (al_below (w2.alloc (.cells #[.string ⟨#[]⟩,.string ⟨#[97]⟩,.string ⟨#[97,46]⟩,.string ⟨#[97,46,98]⟩,.string ⟨#[97,46,98,46,99]⟩,.string ⟨#[65,46,98]⟩] 9)) (.cells #[.string ⟨#[65,46,98]⟩] 9)))
 have HO0:=hide HM0.out.m.o.i
 have hS0:=HM0.out.m.d.sz
 have HO1:=hide HM1.out.m.o.i
 have hS1:=HM1.out.m.d.sz
 have HO2:=hide HM2.out.m.o.i
 have hS2:=HM2.out.m.d.sz
 have HO3:=hide HM3.out.m.o.i
 have hS3:=HM3.out.m.d.sz
 have HN0:=hide (cells_at (w2.drew.alloc (.cells #[.string ⟨#[]⟩,.string ⟨#[97]⟩,.string ⟨#[97,46]⟩,.string ⟨#[97,46,98]⟩,.string ⟨#[97,46,98,46,99]⟩,.string ⟨#[65,46,98]⟩] 9)) (w2.heap.size+1) _ 9 (clT ⟨#[65,46,98]⟩) rfl (by simp [drw_sz]))
 have HN1:=hide (cells_at (w2.alloc (.cells #[.string ⟨#[]⟩,.string ⟨#[97]⟩,.string ⟨#[97,46]⟩,.string ⟨#[97,46,98]⟩,.string ⟨#[97,46,98,46,99]⟩,.string ⟨#[65,46,98]⟩] 9)).drew (w2.heap.size+1) _ 9 (clT ⟨#[65,46,98]⟩) rfl (by simp [drw_sz]))
 have HN2:=hide (cells_at (w2.alloc (.cells #[.string ⟨#[]⟩,.string ⟨#[97]⟩,.string ⟨#[97,46]⟩,.string ⟨#[97,46,98]⟩,.string ⟨#[97,46,98,46,99]⟩,.string ⟨#[65,46,98]⟩] 9)) (w2.heap.size+1) _ 9 (clT ⟨#[65,46,98]⟩) rfl (by simp [drw_sz]))
 have HN3:=hide (cells_at (w2.alloc (.cells #[.string ⟨#[]⟩,.string ⟨#[97]⟩,.string ⟨#[97,46]⟩,.string ⟨#[97,46,98]⟩,.string ⟨#[97,46,98,46,99]⟩,.string ⟨#[65,46,98]⟩] 9)) (w2.heap.size+1) _ 9 (clT ⟨#[65,46,98]⟩) rfl (by simp [drw_sz]))
 have ct:V.tmod 6=5:=by rw [Int.tmod_eq_emod_of_nonneg y0];exact c1
 obtain ⟨iT,hiT,hz0iT,hz1iT,hz2iT⟩:=info_parts infoT
 have HR2:=hide R2
 clear R2
 go_wp2_with fail
 go_region_law (first
  | (refine step_append_lies _ rfl _ _ 46 rfl w.heap.size 9 iT (.string ⟨#[]⟩) 1 16 Tryz.underlying46 hiT hz0iT hz1iT hz2iT rfl (by decide) (.slice M.a6 P.ss.length M.c6) P.ss.length (P.ss.flatMap clT) rfl (by first | exact HO0.out | exact HO1.out | exact HO2.out | exact HO3.out) ⟨w2.heap.size+1,0,none⟩ 1 1 (clT ⟨#[65,46,98]⟩) rfl rfl (by first | exact HN0.out | exact HN1.out | exact HN2.out | exact HN3.out) (by intro u hu;simp [clI,clT,clX] at hu;first | (subst hu;rfl) | (rcases hu with rfl | rfl | rfl <;> rfl)) (by decide) (by unfold maxLen;omega) (by omega) (by first | exact hS0 | exact hS1 | exact hS2 | exact hS3) _ rfl ?_;intro g4 c4 w5 hown hgr hat hlt4;obtain ⟨p9,q9⟩:=(show _∧_ from (by first | exact HM0.out.cell4 HO0.out hgr (by decide) 6 (u:=.slice M.a6 P.ss.length M.c6) rfl | exact HM1.out.cell4 HO1.out hgr (by decide) 6 (u:=.slice M.a6 P.ss.length M.c6) rfl | exact HM2.out.cell4 HO2.out hgr (by decide) 6 (u:=.slice M.a6 P.ss.length M.c6) rfl | exact HM3.out.cell4 HO3.out hgr (by decide) 6 (u:=.slice M.a6 P.ss.length M.c6) rfl))))
 all_goals
  have HF:=hide (show MRU U W w (w5.setCell ⟨W.heap.size,6,none⟩ (.slice (some ⟨g4,0,none⟩) (P.ss.length+1) c4)) r a n c zs (k+1+1) W.heap.size (W.heap.size+1) _ _ from (by first | exact MRU.imp (x:=⟨#[65,46,98]⟩) HM0.out hown hgr hat | exact MRU.imp (x:=⟨#[65,46,98]⟩) HM1.out hown hgr hat | exact MRU.imp (x:=⟨#[65,46,98]⟩) HM2.out hown hgr hat | exact MRU.imp (x:=⟨#[65,46,98]⟩) HM3.out hown hgr hat))
  clear HM0 HO0 HN0 hS0 HM1 HO1 HN1 hS1 HM2 HO2 HN2 hS2 HM3 HO3 HN3 hS3 hown hgr hat hlt4 p9 q9 p0 q0 p1 q1 p2 q2 HR2
  generalize w5.setCell ⟨W.heap.size,6,none⟩ (.slice (some ⟨g4,0,none⟩) (P.ss.length+1) c4)=W5 at *
  obtain ⟨b0,b1,b2,b3,b4,b5,b6,b7⟩:=HF.out.m.box.eight'
  obtain ⟨f0,f1,f2,f3,f4,f5,f6,f7⟩:=HF.out.m.box.froz
  obtain ⟨r0,r1,r2,r3,r4,r5,r6,r7⟩:=z8_cells HF.out.res
  obtain ⟨s0,s1,s2,s3,s4,s5,s6,s7⟩:=HF.out.res.froz
  go_wp2
  refine spl_end HF.out.res rfl _ _ _ _ _ _ _ _ _ _ rfl ?_
  exact spu_fin HF.out _ _ _ _ _ _ _ _ (by simp [modV])
theorem rep_snoc {α:Type} (t:Nat) (x:α) (l:List α):l++List.replicate (t+1) x=(l++List.replicate t x)++[x]:=by rw [List.replicate_succ',List.append_assoc]
set_option maxHeartbeats 2000000 in
theorem sp8 (zs:List Int) (k:Nat) (K V:Int) (E1:Hid (zs.getD k 0=K)) (E2:Hid (zs.getD (k+1) 0=V)) (z0:0≤K) (z1:K≤255) (y0:0≤V) (y1:V≤255) (P:PMod) (DP:DnR P) (N:Nat) (c0:K % 12=8) (c1:(N:Int)=16+V % 2):SpU zs k P { P with ss:=P.ss++List.replicate (N - P.ss.length) (⟨#[109,97,46,103,111]⟩:ByteArray) } (k+2):=by
 intro U w W r a n c M D o ds hU hR
 have R0:=mru_spoil D o ds hU hR
 have hs0:=D.sz
 have hil:=DP.i.1
 clear D o ds hU hR
 go_enter Tryz.func136,Tryz.ntmps136
 go_wp2_with fail
 refine (R0.next K E1).mono ?_
 rintro e w1 ⟨rfl,R1⟩
 clear R0
 go_wp2_with fail
 refine (R1.next V E2).mono ?_
 rintro e w2 ⟨rfl,R2⟩
 clear R1 E1 E2
 obtain ⟨iT,hiT,hz0iT,hz1iT,hz2iT⟩:=info_parts infoT
 have HM0:=hide R2
 clear R2
 go_wp2_with fail
 go_loopw [103] (fun _ wr=>∃ (t:Nat) (M:Ma),P.ss.length+t≤N∧MRU U W w wr r a n c zs (k+1+1) W.heap.size (W.heap.size+1) { P with ss:=P.ss++List.replicate t (⟨#[109,97,46,103,111]⟩:ByteArray) } M) (fun _ wr=>18 - lenAt wr W.heap.size 6)
 case atStart=>exact ⟨0,M,by omega,by have:=HM0.out;simpa using this⟩
 case round=>
  obtain ⟨t,M2,ht,HM⟩:=hrel
  generalize wr=wr1 at *
  clear HM0
  have hSl:(P.ss++List.replicate t (⟨#[109,97,46,103,111]⟩:ByteArray)).length=P.ss.length+t:=by simp
  have ES:=hide (rep_snoc t (⟨#[109,97,46,103,111]⟩:ByteArray) P.ss)
  have ET:=hide (fun u (h:u=t)=>show P.ss++List.replicate u (⟨#[109,97,46,103,111]⟩:ByteArray)=P.ss++List.replicate t (⟨#[109,97,46,103,111]⟩:ByteArray) by rw [h])
  generalize P.ss++List.replicate t (⟨#[109,97,46,103,111]⟩:ByteArray)=S at *
  obtain ⟨b6,f6⟩:=HM.two 6 (.slice M2.a6 S.length M2.c6) rfl
  by_cases hlt:P.ss.length+t<N
  ·have hlt':(S.length:Int)<16+V % 2:=by omega
   have hS3:S.length≤17:=by omega
   have HMA:=hide (HM.below (al_below wr1 (.cells #[.string (⟨#[109,97,46,103,111]⟩:ByteArray)] 9)))
   obtain ⟨b6a,f6a⟩:=HMA.out.two 6 (.slice M2.a6 S.length M2.c6) rfl
   have HOW:=hide HMA.out.m.o.i
   have HNW:=hide (cells_new wr1 _ 9 (clT (⟨#[109,97,46,103,111]⟩:ByteArray)) rfl)
   have HSZ:=hide HMA.out.m.d.sz
   have hm0:=lenAt_of b6
   have HL0:=hide hm0
   have HSL:=hide hSl
   clear HM hm0 hSl
   go_wp2_with (at_builtin;refine wpList_append_lies _ rfl _ _ 46 rfl w.heap.size 9 iT (.string ⟨#[]⟩) 1 16 Tryz.underlying46 hiT hz0iT hz1iT hz2iT rfl (by decide) (.slice M2.a6 S.length M2.c6) S.length (S.flatMap clT) rfl HOW.out ⟨wr1.heap.size,0,none⟩ 1 1 (clT (⟨#[109,97,46,103,111]⟩:ByteArray)) rfl rfl HNW.out (by intro u hu;simp [clT] at hu;subst hu;rfl) (by decide) (by unfold maxLen;omega) (by omega) HSZ.out _ rfl ?_;intro g4 c4 w5 hown hgr hat hlt4;obtain ⟨p4,q4⟩:=HMA.out.cell4 HOW.out hgr (by decide) 6 (u:=.slice M2.a6 S.length M2.c6) rfl)
   have HF:=hide (MRU.imp (x:=(⟨#[109,97,46,103,111]⟩:ByteArray)) HMA.out hown hgr hat)
   have HL1:=hide (lenAt_of (HF.out.two 6 (.slice (some ⟨g4,0,none⟩) (S++[(⟨#[109,97,46,103,111]⟩:ByteArray)]).length c4) rfl).1)
   clear HMA HOW HNW HSZ hown hgr hat hlt4 b6 f6 b6a f6a
   go_wp2
   go_roundw
   case rel=>exact ⟨t+1,by omega,{ M2 with a6:=some ⟨g4,0,none⟩,c6:=c4 },by rw [ES.out];exact HF.out⟩
   case measure=>
    have h1:=HL1.out
    have h0:=HL0.out
    simp at h1
    simp only [h1,h0]
    omega
  ·have hlt':¬ (S.length:Int)<16+V % 2:=by omega
   have HF:=hide HM
   have HEQ:=hide (ET.out (N - P.ss.length) (by omega))
   clear HM b6 f6 hSl
   obtain ⟨b0,b1,b2,b3,b4,b5,b6,b7⟩:=HF.out.m.box.eight'
   obtain ⟨f0,f1,f2,f3,f4,f5,f6,f7⟩:=HF.out.m.box.froz
   obtain ⟨r0,r1,r2,r3,r4,r5,r6,r7⟩:=z8_cells HF.out.res
   obtain ⟨s0,s1,s2,s3,s4,s5,s6,s7⟩:=HF.out.res.froz
   go_wp2
   refine spl_end HF.out.res rfl _ _ _ _ _ _ _ _ _ _ rfl ?_
   rw [HEQ.out]
   exact spu_fin HF.out _ _ _ _ _ _ _ _ rfl
end Go.Proofs.YtngdgogjlpjjpadGreat
