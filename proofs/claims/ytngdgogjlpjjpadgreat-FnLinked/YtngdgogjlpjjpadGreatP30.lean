import Derived.Test.YtngdgogjlpjjpadGreatP08
import Derived.Test.YtngdgogjlpjjpadGreatP26
namespace Go.Proofs.YtngdgogjlpjjpadGreat
open Go.RowKit
set_option linter.unusedVariables false
set_option linter.unusedSimpArgs false
set_option maxRecDepth 100000
set_option maxHeartbeats 2000000 in
theorem sp9_0 (zs:List Int) (k:Nat) (K V:Int) (E1:Hid (zs.getD k 0=K)) (E2:Hid (zs.getD (k+1) 0=V)) (z0:0≤K) (z1:K≤255) (y0:0≤V) (y1:V≤255) (P:PMod) (DP:DnR P) (c0:K % 12=9) (c1:V % 4=0):SpU zs k P { P with es:=P.es++[(⟨#[103,111]⟩,V / 4 % 4 - 2,V / 16 % 3)] } (k+2):=by
 intro U w W r a n c M D o ds hU hR
 have R0:=mru_spoil D o ds hU hR
 have hs0:=D.sz
 have hel:=DP.e.1
 clear D o ds hU hR
 go_enter Tryz.func136,Tryz.ntmps136
 go_wp2_with fail
 refine (R0.next K E1).mono ?_
 rintro e w1 ⟨rfl,R1⟩
 clear R0
 go_wp2_with fail
 refine (R1.next V E2).mono ?_
 rintro e w2 ⟨rfl,R2⟩
 clear R1 E1 E2
 obtain ⟨p0,q0⟩:=R2.two 7 (.slice M.a7 P.es.length M.c7) rfl
 obtain ⟨p1,q1⟩:=(R2.below (al_below w2 (.cells #[.string ⟨#[103,111]⟩,.string ⟨#[120]⟩,.string ⟨#[98,97]⟩,.string ⟨#[]⟩] 9))).two 7 (.slice M.a7 P.es.length M.c7) rfl
 obtain ⟨p2,q2⟩:=((R2.below (al_below w2 (.cells #[.string ⟨#[103,111]⟩,.string ⟨#[120]⟩,.string ⟨#[98,97]⟩,.string ⟨#[]⟩] 9))).below (al_below (w2.alloc (.cells #[.string ⟨#[103,111]⟩,.string ⟨#[120]⟩,.string ⟨#[98,97]⟩,.string ⟨#[]⟩] 9)) (.cells #[.string ⟨#[103,111]⟩,.int .i64 (V / 4 % 4 - 2),.int .i64 (V / 16 % 3)] 210))).two 7 (.slice M.a7 P.es.length M.c7) rfl
 have HM0:=hide ((R2.drew.below (al_below w2.drew (.cells #[.string ⟨#[103,111]⟩,.string ⟨#[120]⟩,.string ⟨#[98,97]⟩,.string ⟨#[]⟩] 9))).below (al_below (w2.drew.alloc (.cells #[.string ⟨#[103,111]⟩,.string ⟨#[120]⟩,.string ⟨#[98,97]⟩,.string ⟨#[]⟩] 9)) (.cells #[.string ⟨#[103,111]⟩,.int .i64 (V / 4 % 4 - 2),.int .i64 (V / 16 % 3)] 210)))
 have HM1:=hide ((R2.below (al_below w2 (.cells #[.string ⟨#[103,111]⟩,.string ⟨#[120]⟩,.string ⟨#[98,97]⟩,.string ⟨#[]⟩] 9))).drew.below (al_below (w2.alloc (.cells #[.string ⟨#[103,111]⟩,.string ⟨#[120]⟩,.string ⟨#[98,97]⟩,.string ⟨#[]⟩] 9)).drew (.cells #[.string ⟨#[103,111]⟩,.int .i64 (V / 4 % 4 - 2),.int .i64 (V / 16 % 3)] 210)))
 have HM2:=hide ((R2.below (al_below w2 (.cells #[.string ⟨#[103,111]⟩,.string ⟨#[120]⟩,.string ⟨#[98,97]⟩,.string ⟨#[]⟩] 9))).below (al_below (w2.alloc (.cells #[.string ⟨#[103,111]⟩,.string ⟨#[120]⟩,.string ⟨#[98,97]⟩,.string ⟨#[]⟩] 9)) (.cells #[.string ⟨#[103,111]⟩,.int .i64 (V / 4 % 4 - 2),.int .i64 (V / 16 % 3)] 210))).drew
 have HM3:=hide ((R2.below (al_below w2 (.cells #[.string ⟨#[103,111]⟩,.string ⟨#[120]⟩,.string ⟨#[98,97]⟩,.string ⟨#[]⟩] 9))).below (al_below (w2.alloc (.cells #[.string ⟨#[103,111]⟩,.string ⟨#[120]⟩,.string ⟨#[98,97]⟩,.string ⟨#[]⟩] 9)) (.cells #[.string ⟨#[103,111]⟩,.int .i64 (V / 4 % 4 - 2),.int .i64 (V / 16 % 3)] 210)))
 have HO0:=hide HM0.out.m.o.e
 have hS0:=HM0.out.m.d.sz
 have HO1:=hide HM1.out.m.o.e
 have hS1:=HM1.out.m.d.sz
 have HO2:=hide HM2.out.m.o.e
 have hS2:=HM2.out.m.d.sz
 have HO3:=hide HM3.out.m.o.e
 have hS3:=HM3.out.m.d.sz
 have HN0:=hide (cells_at (w2.drew.alloc (.cells #[.string ⟨#[103,111]⟩,.string ⟨#[120]⟩,.string ⟨#[98,97]⟩,.string ⟨#[]⟩] 9)) (w2.heap.size+1) _ 210 (clX (⟨#[103,111]⟩,V / 4 % 4 - 2,V / 16 % 3)) rfl (by simp [drw_sz]))
 have HN1:=hide (cells_at (w2.alloc (.cells #[.string ⟨#[103,111]⟩,.string ⟨#[120]⟩,.string ⟨#[98,97]⟩,.string ⟨#[]⟩] 9)).drew (w2.heap.size+1) _ 210 (clX (⟨#[103,111]⟩,V / 4 % 4 - 2,V / 16 % 3)) rfl (by simp [drw_sz]))
 have HN2:=hide (cells_at (w2.alloc (.cells #[.string ⟨#[103,111]⟩,.string ⟨#[120]⟩,.string ⟨#[98,97]⟩,.string ⟨#[]⟩] 9)) (w2.heap.size+1) _ 210 (clX (⟨#[103,111]⟩,V / 4 % 4 - 2,V / 16 % 3)) rfl (by simp [drw_sz]))
 have HN3:=hide (cells_at (w2.alloc (.cells #[.string ⟨#[103,111]⟩,.string ⟨#[120]⟩,.string ⟨#[98,97]⟩,.string ⟨#[]⟩] 9)) (w2.heap.size+1) _ 210 (clX (⟨#[103,111]⟩,V / 4 % 4 - 2,V / 16 % 3)) rfl (by simp [drw_sz]))
 have ct:V.tmod 4=0:=by rw [Int.tmod_eq_emod_of_nonneg y0];exact c1
 have e4:IntKind.i64.wrap (V.tdiv 4)=V / 4:=by rw [Int.tdiv_eq_ediv_of_nonneg y0,wraps62 _ (by omega) (by omega)]
 have e16:IntKind.i64.wrap (V.tdiv 16)=V / 16:=by rw [Int.tdiv_eq_ediv_of_nonneg y0,wraps62 _ (by omega) (by omega)]
 have e44:(V / 4).tmod 4=V / 4 % 4:=Int.tmod_eq_emod_of_nonneg (by omega)
 have e163:(V / 16).tmod 3=V / 16 % 3:=Int.tmod_eq_emod_of_nonneg (by omega)
 have ew:IntKind.i64.wrap (V / 4 % 4 - 2)=V / 4 % 4 - 2:=wrap_small _ (by omega) (by omega)
 obtain ⟨iX,hiX,hz0iX,hz1iX,hz2iX⟩:=info_parts infoX
 have HR2:=hide R2
 clear R2
 go_wp2_with fail
 go_region_law (first
  | (refine step_append_lies _ rfl _ _ 47 rfl w.heap.size 210 iX (.agg #[.string ⟨#[]⟩,.int .i64 0,.int .i64 0]) 3 32 Tryz.underlying47 hiX hz0iX hz1iX hz2iX rfl (by decide) (.slice M.a7 P.es.length M.c7) P.es.length (P.es.flatMap clX) rfl (by first | exact HO0.out | exact HO1.out | exact HO2.out | exact HO3.out) ⟨w2.heap.size+1,0,none⟩ 1 1 (clX (⟨#[103,111]⟩,V / 4 % 4 - 2,V / 16 % 3)) rfl rfl (by first | exact HN0.out | exact HN1.out | exact HN2.out | exact HN3.out) (by intro u hu;simp [clI,clT,clX] at hu;first | (subst hu;rfl) | (rcases hu with rfl | rfl | rfl <;> rfl)) (by decide) (by unfold maxLen;omega) (by omega) (by first | exact hS0 | exact hS1 | exact hS2 | exact hS3) _ rfl ?_;intro g4 c4 w5 hown hgr hat hlt4;obtain ⟨p9,q9⟩:=(show _∧_ from (by first | exact HM0.out.cell4 HO0.out hgr (by decide) 7 (u:=.slice M.a7 P.es.length M.c7) rfl | exact HM1.out.cell4 HO1.out hgr (by decide) 7 (u:=.slice M.a7 P.es.length M.c7) rfl | exact HM2.out.cell4 HO2.out hgr (by decide) 7 (u:=.slice M.a7 P.es.length M.c7) rfl | exact HM3.out.cell4 HO3.out hgr (by decide) 7 (u:=.slice M.a7 P.es.length M.c7) rfl))))
 all_goals
  have HF:=hide (show MRU U W w (w5.setCell ⟨W.heap.size,7,none⟩ (.slice (some ⟨g4,0,none⟩) (P.es.length+1) c4)) r a n c zs (k+1+1) W.heap.size (W.heap.size+1) _ _ from (by first | exact MRU.exp (x:=(⟨#[103,111]⟩,V / 4 % 4 - 2,V / 16 % 3)) HM0.out hown hgr hat | exact MRU.exp (x:=(⟨#[103,111]⟩,V / 4 % 4 - 2,V / 16 % 3)) HM1.out hown hgr hat | exact MRU.exp (x:=(⟨#[103,111]⟩,V / 4 % 4 - 2,V / 16 % 3)) HM2.out hown hgr hat | exact MRU.exp (x:=(⟨#[103,111]⟩,V / 4 % 4 - 2,V / 16 % 3)) HM3.out hown hgr hat))
  clear HM0 HO0 HN0 hS0 HM1 HO1 HN1 hS1 HM2 HO2 HN2 hS2 HM3 HO3 HN3 hS3 hown hgr hat hlt4 p9 q9 p0 q0 p1 q1 p2 q2 HR2
  generalize w5.setCell ⟨W.heap.size,7,none⟩ (.slice (some ⟨g4,0,none⟩) (P.es.length+1) c4)=W5 at *
  obtain ⟨b0,b1,b2,b3,b4,b5,b6,b7⟩:=HF.out.m.box.eight'
  obtain ⟨f0,f1,f2,f3,f4,f5,f6,f7⟩:=HF.out.m.box.froz
  obtain ⟨r0,r1,r2,r3,r4,r5,r6,r7⟩:=z8_cells HF.out.res
  obtain ⟨s0,s1,s2,s3,s4,s5,s6,s7⟩:=HF.out.res.froz
  go_wp2
  refine spl_end HF.out.res rfl _ _ _ _ _ _ _ _ _ _ rfl ?_
  exact spu_fin HF.out _ _ _ _ _ _ _ _ (by simp [modV])
set_option maxHeartbeats 2000000 in
theorem sp9_1 (zs:List Int) (k:Nat) (K V:Int) (E1:Hid (zs.getD k 0=K)) (E2:Hid (zs.getD (k+1) 0=V)) (z0:0≤K) (z1:K≤255) (y0:0≤V) (y1:V≤255) (P:PMod) (DP:DnR P) (c0:K % 12=9) (c1:V % 4=1):SpU zs k P { P with es:=P.es++[(⟨#[120]⟩,V / 4 % 4 - 2,V / 16 % 3)] } (k+2):=by
 intro U w W r a n c M D o ds hU hR
 have R0:=mru_spoil D o ds hU hR
 have hs0:=D.sz
 have hel:=DP.e.1
 clear D o ds hU hR
 go_enter Tryz.func136,Tryz.ntmps136
 go_wp2_with fail
 refine (R0.next K E1).mono ?_
 rintro e w1 ⟨rfl,R1⟩
 clear R0
 go_wp2_with fail
 refine (R1.next V E2).mono ?_
 rintro e w2 ⟨rfl,R2⟩
 clear R1 E1 E2
 obtain ⟨p0,q0⟩:=R2.two 7 (.slice M.a7 P.es.length M.c7) rfl
 obtain ⟨p1,q1⟩:=(R2.below (al_below w2 (.cells #[.string ⟨#[103,111]⟩,.string ⟨#[120]⟩,.string ⟨#[98,97]⟩,.string ⟨#[]⟩] 9))).two 7 (.slice M.a7 P.es.length M.c7) rfl
 obtain ⟨p2,q2⟩:=((R2.below (al_below w2 (.cells #[.string ⟨#[103,111]⟩,.string ⟨#[120]⟩,.string ⟨#[98,97]⟩,.string ⟨#[]⟩] 9))).below (al_below (w2.alloc (.cells #[.string ⟨#[103,111]⟩,.string ⟨#[120]⟩,.string ⟨#[98,97]⟩,.string ⟨#[]⟩] 9)) (.cells #[.string ⟨#[120]⟩,.int .i64 (V / 4 % 4 - 2),.int .i64 (V / 16 % 3)] 210))).two 7 (.slice M.a7 P.es.length M.c7) rfl
 have HM0:=hide ((R2.drew.below (al_below w2.drew (.cells #[.string ⟨#[103,111]⟩,.string ⟨#[120]⟩,.string ⟨#[98,97]⟩,.string ⟨#[]⟩] 9))).below (al_below (w2.drew.alloc (.cells #[.string ⟨#[103,111]⟩,.string ⟨#[120]⟩,.string ⟨#[98,97]⟩,.string ⟨#[]⟩] 9)) (.cells #[.string ⟨#[120]⟩,.int .i64 (V / 4 % 4 - 2),.int .i64 (V / 16 % 3)] 210)))
 have HM1:=hide ((R2.below (al_below w2 (.cells #[.string ⟨#[103,111]⟩,.string ⟨#[120]⟩,.string ⟨#[98,97]⟩,.string ⟨#[]⟩] 9))).drew.below (al_below (w2.alloc (.cells #[.string ⟨#[103,111]⟩,.string ⟨#[120]⟩,.string ⟨#[98,97]⟩,.string ⟨#[]⟩] 9)).drew (.cells #[.string ⟨#[120]⟩,.int .i64 (V / 4 % 4 - 2),.int .i64 (V / 16 % 3)] 210)))
 have HM2:=hide ((R2.below (al_below w2 (.cells #[.string ⟨#[103,111]⟩,.string ⟨#[120]⟩,.string ⟨#[98,97]⟩,.string ⟨#[]⟩] 9))).below (al_below (w2.alloc (.cells #[.string ⟨#[103,111]⟩,.string ⟨#[120]⟩,.string ⟨#[98,97]⟩,.string ⟨#[]⟩] 9)) (.cells #[.string ⟨#[120]⟩,.int .i64 (V / 4 % 4 - 2),.int .i64 (V / 16 % 3)] 210))).drew
 have HM3:=hide ((R2.below (al_below w2 (.cells #[.string ⟨#[103,111]⟩,.string ⟨#[120]⟩,.string ⟨#[98,97]⟩,.string ⟨#[]⟩] 9))).below (al_below (w2.alloc (.cells #[.string ⟨#[103,111]⟩,.string ⟨#[120]⟩,.string ⟨#[98,97]⟩,.string ⟨#[]⟩] 9)) (.cells #[.string ⟨#[120]⟩,.int .i64 (V / 4 % 4 - 2),.int .i64 (V / 16 % 3)] 210)))
 have HO0:=hide HM0.out.m.o.e
 have hS0:=HM0.out.m.d.sz
 have HO1:=hide HM1.out.m.o.e
 have hS1:=HM1.out.m.d.sz
 have HO2:=hide HM2.out.m.o.e
 have hS2:=HM2.out.m.d.sz
 have HO3:=hide HM3.out.m.o.e
 have hS3:=HM3.out.m.d.sz
 have HN0:=hide (cells_at (w2.drew.alloc (.cells #[.string ⟨#[103,111]⟩,.string ⟨#[120]⟩,.string ⟨#[98,97]⟩,.string ⟨#[]⟩] 9)) (w2.heap.size+1) _ 210 (clX (⟨#[120]⟩,V / 4 % 4 - 2,V / 16 % 3)) rfl (by simp [drw_sz]))
 have HN1:=hide (cells_at (w2.alloc (.cells #[.string ⟨#[103,111]⟩,.string ⟨#[120]⟩,.string ⟨#[98,97]⟩,.string ⟨#[]⟩] 9)).drew (w2.heap.size+1) _ 210 (clX (⟨#[120]⟩,V / 4 % 4 - 2,V / 16 % 3)) rfl (by simp [drw_sz]))
 have HN2:=hide (cells_at (w2.alloc (.cells #[.string ⟨#[103,111]⟩,.string ⟨#[120]⟩,.string ⟨#[98,97]⟩,.string ⟨#[]⟩] 9)) (w2.heap.size+1) _ 210 (clX (⟨#[120]⟩,V / 4 % 4 - 2,V / 16 % 3)) rfl (by simp [drw_sz]))
 have HN3:=hide (cells_at (w2.alloc (.cells #[.string ⟨#[103,111]⟩,.string ⟨#[120]⟩,.string ⟨#[98,97]⟩,.string ⟨#[]⟩] 9)) (w2.heap.size+1) _ 210 (clX (⟨#[120]⟩,V / 4 % 4 - 2,V / 16 % 3)) rfl (by simp [drw_sz]))
 have ct:V.tmod 4=1:=by rw [Int.tmod_eq_emod_of_nonneg y0];exact c1
 have e4:IntKind.i64.wrap (V.tdiv 4)=V / 4:=by rw [Int.tdiv_eq_ediv_of_nonneg y0,wraps62 _ (by omega) (by omega)]
 have e16:IntKind.i64.wrap (V.tdiv 16)=V / 16:=by rw [Int.tdiv_eq_ediv_of_nonneg y0,wraps62 _ (by omega) (by omega)]
 have e44:(V / 4).tmod 4=V / 4 % 4:=Int.tmod_eq_emod_of_nonneg (by omega)
 have e163:(V / 16).tmod 3=V / 16 % 3:=Int.tmod_eq_emod_of_nonneg (by omega)
 have ew:IntKind.i64.wrap (V / 4 % 4 - 2)=V / 4 % 4 - 2:=wrap_small _ (by omega) (by omega)
 obtain ⟨iX,hiX,hz0iX,hz1iX,hz2iX⟩:=info_parts infoX
 have HR2:=hide R2
 clear R2
 go_wp2_with fail
 go_region_law (first
  | (refine step_append_lies _ rfl _ _ 47 rfl w.heap.size 210 iX (.agg #[.string ⟨#[]⟩,.int .i64 0,.int .i64 0]) 3 32 Tryz.underlying47 hiX hz0iX hz1iX hz2iX rfl (by decide) (.slice M.a7 P.es.length M.c7) P.es.length (P.es.flatMap clX) rfl (by first | exact HO0.out | exact HO1.out | exact HO2.out | exact HO3.out) ⟨w2.heap.size+1,0,none⟩ 1 1 (clX (⟨#[120]⟩,V / 4 % 4 - 2,V / 16 % 3)) rfl rfl (by first | exact HN0.out | exact HN1.out | exact HN2.out | exact HN3.out) (by intro u hu;simp [clI,clT,clX] at hu;first | (subst hu;rfl) | (rcases hu with rfl | rfl | rfl <;> rfl)) (by decide) (by unfold maxLen;omega) (by omega) (by first | exact hS0 | exact hS1 | exact hS2 | exact hS3) _ rfl ?_;intro g4 c4 w5 hown hgr hat hlt4;obtain ⟨p9,q9⟩:=(show _∧_ from (by first | exact HM0.out.cell4 HO0.out hgr (by decide) 7 (u:=.slice M.a7 P.es.length M.c7) rfl | exact HM1.out.cell4 HO1.out hgr (by decide) 7 (u:=.slice M.a7 P.es.length M.c7) rfl | exact HM2.out.cell4 HO2.out hgr (by decide) 7 (u:=.slice M.a7 P.es.length M.c7) rfl | exact HM3.out.cell4 HO3.out hgr (by decide) 7 (u:=.slice M.a7 P.es.length M.c7) rfl))))
 all_goals
  have HF:=hide (show MRU U W w (w5.setCell ⟨W.heap.size,7,none⟩ (.slice (some ⟨g4,0,none⟩) (P.es.length+1) c4)) r a n c zs (k+1+1) W.heap.size (W.heap.size+1) _ _ from (by first | exact MRU.exp (x:=(⟨#[120]⟩,V / 4 % 4 - 2,V / 16 % 3)) HM0.out hown hgr hat | exact MRU.exp (x:=(⟨#[120]⟩,V / 4 % 4 - 2,V / 16 % 3)) HM1.out hown hgr hat | exact MRU.exp (x:=(⟨#[120]⟩,V / 4 % 4 - 2,V / 16 % 3)) HM2.out hown hgr hat | exact MRU.exp (x:=(⟨#[120]⟩,V / 4 % 4 - 2,V / 16 % 3)) HM3.out hown hgr hat))
  clear HM0 HO0 HN0 hS0 HM1 HO1 HN1 hS1 HM2 HO2 HN2 hS2 HM3 HO3 HN3 hS3 hown hgr hat hlt4 p9 q9 p0 q0 p1 q1 p2 q2 HR2
  generalize w5.setCell ⟨W.heap.size,7,none⟩ (.slice (some ⟨g4,0,none⟩) (P.es.length+1) c4)=W5 at *
  obtain ⟨b0,b1,b2,b3,b4,b5,b6,b7⟩:=HF.out.m.box.eight'
  obtain ⟨f0,f1,f2,f3,f4,f5,f6,f7⟩:=HF.out.m.box.froz
  obtain ⟨r0,r1,r2,r3,r4,r5,r6,r7⟩:=z8_cells HF.out.res
  obtain ⟨s0,s1,s2,s3,s4,s5,s6,s7⟩:=HF.out.res.froz
  go_wp2
  refine spl_end HF.out.res rfl _ _ _ _ _ _ _ _ _ _ rfl ?_
  exact spu_fin HF.out _ _ _ _ _ _ _ _ (by simp [modV])
set_option maxHeartbeats 2000000 in
theorem sp9_2 (zs:List Int) (k:Nat) (K V:Int) (E1:Hid (zs.getD k 0=K)) (E2:Hid (zs.getD (k+1) 0=V)) (z0:0≤K) (z1:K≤255) (y0:0≤V) (y1:V≤255) (P:PMod) (DP:DnR P) (c0:K % 12=9) (c1:V % 4=2):SpU zs k P { P with es:=P.es++[(⟨#[98,97]⟩,V / 4 % 4 - 2,V / 16 % 3)] } (k+2):=by
 intro U w W r a n c M D o ds hU hR
 have R0:=mru_spoil D o ds hU hR
 have hs0:=D.sz
 have hel:=DP.e.1
 clear D o ds hU hR
 go_enter Tryz.func136,Tryz.ntmps136
 go_wp2_with fail
 refine (R0.next K E1).mono ?_
 rintro e w1 ⟨rfl,R1⟩
 clear R0
 go_wp2_with fail
 refine (R1.next V E2).mono ?_
 rintro e w2 ⟨rfl,R2⟩
 clear R1 E1 E2
 obtain ⟨p0,q0⟩:=R2.two 7 (.slice M.a7 P.es.length M.c7) rfl
 obtain ⟨p1,q1⟩:=(R2.below (al_below w2 (.cells #[.string ⟨#[103,111]⟩,.string ⟨#[120]⟩,.string ⟨#[98,97]⟩,.string ⟨#[]⟩] 9))).two 7 (.slice M.a7 P.es.length M.c7) rfl
 obtain ⟨p2,q2⟩:=((R2.below (al_below w2 (.cells #[.string ⟨#[103,111]⟩,.string ⟨#[120]⟩,.string ⟨#[98,97]⟩,.string ⟨#[]⟩] 9))).below (al_below (w2.alloc (.cells #[.string ⟨#[103,111]⟩,.string ⟨#[120]⟩,.string ⟨#[98,97]⟩,.string ⟨#[]⟩] 9)) (.cells #[.string ⟨#[98,97]⟩,.int .i64 (V / 4 % 4 - 2),.int .i64 (V / 16 % 3)] 210))).two 7 (.slice M.a7 P.es.length M.c7) rfl
 have HM0:=hide ((R2.drew.below (al_below w2.drew (.cells #[.string ⟨#[103,111]⟩,.string ⟨#[120]⟩,.string ⟨#[98,97]⟩,.string ⟨#[]⟩] 9))).below (al_below (w2.drew.alloc (.cells #[.string ⟨#[103,111]⟩,.string ⟨#[120]⟩,.string ⟨#[98,97]⟩,.string ⟨#[]⟩] 9)) (.cells #[.string ⟨#[98,97]⟩,.int .i64 (V / 4 % 4 - 2),.int .i64 (V / 16 % 3)] 210)))
 have HM1:=hide ((R2.below (al_below w2 (.cells #[.string ⟨#[103,111]⟩,.string ⟨#[120]⟩,.string ⟨#[98,97]⟩,.string ⟨#[]⟩] 9))).drew.below (al_below (w2.alloc (.cells #[.string ⟨#[103,111]⟩,.string ⟨#[120]⟩,.string ⟨#[98,97]⟩,.string ⟨#[]⟩] 9)).drew (.cells #[.string ⟨#[98,97]⟩,.int .i64 (V / 4 % 4 - 2),.int .i64 (V / 16 % 3)] 210)))
 have HM2:=hide ((R2.below (al_below w2 (.cells #[.string ⟨#[103,111]⟩,.string ⟨#[120]⟩,.string ⟨#[98,97]⟩,.string ⟨#[]⟩] 9))).below (al_below (w2.alloc (.cells #[.string ⟨#[103,111]⟩,.string ⟨#[120]⟩,.string ⟨#[98,97]⟩,.string ⟨#[]⟩] 9)) (.cells #[.string ⟨#[98,97]⟩,.int .i64 (V / 4 % 4 - 2),.int .i64 (V / 16 % 3)] 210))).drew
 have HM3:=hide ((R2.below (al_below w2 (.cells #[.string ⟨#[103,111]⟩,.string ⟨#[120]⟩,.string ⟨#[98,97]⟩,.string ⟨#[]⟩] 9))).below (al_below (w2.alloc (.cells #[.string ⟨#[103,111]⟩,.string ⟨#[120]⟩,.string ⟨#[98,97]⟩,.string ⟨#[]⟩] 9)) (.cells #[.string ⟨#[98,97]⟩,.int .i64 (V / 4 % 4 - 2),.int .i64 (V / 16 % 3)] 210)))
 have HO0:=hide HM0.out.m.o.e
 have hS0:=HM0.out.m.d.sz
 have HO1:=hide HM1.out.m.o.e
 have hS1:=HM1.out.m.d.sz
 have HO2:=hide HM2.out.m.o.e
 have hS2:=HM2.out.m.d.sz
 have HO3:=hide HM3.out.m.o.e
 have hS3:=HM3.out.m.d.sz
 have HN0:=hide (cells_at (w2.drew.alloc (.cells #[.string ⟨#[103,111]⟩,.string ⟨#[120]⟩,.string ⟨#[98,97]⟩,.string ⟨#[]⟩] 9)) (w2.heap.size+1) _ 210 (clX (⟨#[98,97]⟩,V / 4 % 4 - 2,V / 16 % 3)) rfl (by simp [drw_sz]))
 have HN1:=hide (cells_at (w2.alloc (.cells #[.string ⟨#[103,111]⟩,.string ⟨#[120]⟩,.string ⟨#[98,97]⟩,.string ⟨#[]⟩] 9)).drew (w2.heap.size+1) _ 210 (clX (⟨#[98,97]⟩,V / 4 % 4 - 2,V / 16 % 3)) rfl (by simp [drw_sz]))
 have HN2:=hide (cells_at (w2.alloc (.cells #[.string ⟨#[103,111]⟩,.string ⟨#[120]⟩,.string ⟨#[98,97]⟩,.string ⟨#[]⟩] 9)) (w2.heap.size+1) _ 210 (clX (⟨#[98,97]⟩,V / 4 % 4 - 2,V / 16 % 3)) rfl (by simp [drw_sz]))
 have HN3:=hide (cells_at (w2.alloc (.cells #[.string ⟨#[103,111]⟩,.string ⟨#[120]⟩,.string ⟨#[98,97]⟩,.string ⟨#[]⟩] 9)) (w2.heap.size+1) _ 210 (clX (⟨#[98,97]⟩,V / 4 % 4 - 2,V / 16 % 3)) rfl (by simp [drw_sz]))
 have ct:V.tmod 4=2:=by rw [Int.tmod_eq_emod_of_nonneg y0];exact c1
 have e4:IntKind.i64.wrap (V.tdiv 4)=V / 4:=by rw [Int.tdiv_eq_ediv_of_nonneg y0,wraps62 _ (by omega) (by omega)]
 have e16:IntKind.i64.wrap (V.tdiv 16)=V / 16:=by rw [Int.tdiv_eq_ediv_of_nonneg y0,wraps62 _ (by omega) (by omega)]
 have e44:(V / 4).tmod 4=V / 4 % 4:=Int.tmod_eq_emod_of_nonneg (by omega)
 have e163:(V / 16).tmod 3=V / 16 % 3:=Int.tmod_eq_emod_of_nonneg (by omega)
 have ew:IntKind.i64.wrap (V / 4 % 4 - 2)=V / 4 % 4 - 2:=wrap_small _ (by omega) (by omega)
 obtain ⟨iX,hiX,hz0iX,hz1iX,hz2iX⟩:=info_parts infoX
 have HR2:=hide R2
 clear R2
 go_wp2_with fail
 go_region_law (first
  | (refine step_append_lies _ rfl _ _ 47 rfl w.heap.size 210 iX (.agg #[.string ⟨#[]⟩,.int .i64 0,.int .i64 0]) 3 32 Tryz.underlying47 hiX hz0iX hz1iX hz2iX rfl (by decide) (.slice M.a7 P.es.length M.c7) P.es.length (P.es.flatMap clX) rfl (by first | exact HO0.out | exact HO1.out | exact HO2.out | exact HO3.out) ⟨w2.heap.size+1,0,none⟩ 1 1 (clX (⟨#[98,97]⟩,V / 4 % 4 - 2,V / 16 % 3)) rfl rfl (by first | exact HN0.out | exact HN1.out | exact HN2.out | exact HN3.out) (by intro u hu;simp [clI,clT,clX] at hu;first | (subst hu;rfl) | (rcases hu with rfl | rfl | rfl <;> rfl)) (by decide) (by unfold maxLen;omega) (by omega) (by first | exact hS0 | exact hS1 | exact hS2 | exact hS3) _ rfl ?_;intro g4 c4 w5 hown hgr hat hlt4;obtain ⟨p9,q9⟩:=(show _∧_ from (by first | exact HM0.out.cell4 HO0.out hgr (by decide) 7 (u:=.slice M.a7 P.es.length M.c7) rfl | exact HM1.out.cell4 HO1.out hgr (by decide) 7 (u:=.slice M.a7 P.es.length M.c7) rfl | exact HM2.out.cell4 HO2.out hgr (by decide) 7 (u:=.slice M.a7 P.es.length M.c7) rfl | exact HM3.out.cell4 HO3.out hgr (by decide) 7 (u:=.slice M.a7 P.es.length M.c7) rfl))))
 all_goals
  have HF:=hide (show MRU U W w (w5.setCell ⟨W.heap.size,7,none⟩ (.slice (some ⟨g4,0,none⟩) (P.es.length+1) c4)) r a n c zs (k+1+1) W.heap.size (W.heap.size+1) _ _ from (by first | exact MRU.exp (x:=(⟨#[98,97]⟩,V / 4 % 4 - 2,V / 16 % 3)) HM0.out hown hgr hat | exact MRU.exp (x:=(⟨#[98,97]⟩,V / 4 % 4 - 2,V / 16 % 3)) HM1.out hown hgr hat | exact MRU.exp (x:=(⟨#[98,97]⟩,V / 4 % 4 - 2,V / 16 % 3)) HM2.out hown hgr hat | exact MRU.exp (x:=(⟨#[98,97]⟩,V / 4 % 4 - 2,V / 16 % 3)) HM3.out hown hgr hat))
  clear HM0 HO0 HN0 hS0 HM1 HO1 HN1 hS1 HM2 HO2 HN2 hS2 HM3 HO3 HN3 hS3 hown hgr hat hlt4 p9 q9 p0 q0 p1 q1 p2 q2 HR2
  generalize w5.setCell ⟨W.heap.size,7,none⟩ (.slice (some ⟨g4,0,none⟩) (P.es.length+1) c4)=W5 at *
  obtain ⟨b0,b1,b2,b3,b4,b5,b6,b7⟩:=HF.out.m.box.eight'
  obtain ⟨f0,f1,f2,f3,f4,f5,f6,f7⟩:=HF.out.m.box.froz
  obtain ⟨r0,r1,r2,r3,r4,r5,r6,r7⟩:=z8_cells HF.out.res
  obtain ⟨s0,s1,s2,s3,s4,s5,s6,s7⟩:=HF.out.res.froz
  go_wp2
  refine spl_end HF.out.res rfl _ _ _ _ _ _ _ _ _ _ rfl ?_
  exact spu_fin HF.out _ _ _ _ _ _ _ _ (by simp [modV])
set_option maxHeartbeats 2000000 in
theorem sp9_3 (zs:List Int) (k:Nat) (K V:Int) (E1:Hid (zs.getD k 0=K)) (E2:Hid (zs.getD (k+1) 0=V)) (z0:0≤K) (z1:K≤255) (y0:0≤V) (y1:V≤255) (P:PMod) (DP:DnR P) (c0:K % 12=9) (c1:V % 4=3):SpU zs k P { P with es:=P.es++[(⟨#[]⟩,V / 4 % 4 - 2,V / 16 % 3)] } (k+2):=by
 intro U w W r a n c M D o ds hU hR
 have R0:=mru_spoil D o ds hU hR
 have hs0:=D.sz
 have hel:=DP.e.1
 clear D o ds hU hR
 go_enter Tryz.func136,Tryz.ntmps136
 go_wp2_with fail
 refine (R0.next K E1).mono ?_
 rintro e w1 ⟨rfl,R1⟩
 clear R0
 go_wp2_with fail
 refine (R1.next V E2).mono ?_
 rintro e w2 ⟨rfl,R2⟩
 clear R1 E1 E2
 obtain ⟨p0,q0⟩:=R2.two 7 (.slice M.a7 P.es.length M.c7) rfl
 obtain ⟨p1,q1⟩:=(R2.below (al_below w2 (.cells #[.string ⟨#[103,111]⟩,.string ⟨#[120]⟩,.string ⟨#[98,97]⟩,.string ⟨#[]⟩] 9))).two 7 (.slice M.a7 P.es.length M.c7) rfl
 obtain ⟨p2,q2⟩:=((R2.below (al_below w2 (.cells #[.string ⟨#[103,111]⟩,.string ⟨#[120]⟩,.string ⟨#[98,97]⟩,.string ⟨#[]⟩] 9))).below (al_below (w2.alloc (.cells #[.string ⟨#[103,111]⟩,.string ⟨#[120]⟩,.string ⟨#[98,97]⟩,.string ⟨#[]⟩] 9)) (.cells #[.string ⟨#[]⟩,.int .i64 (V / 4 % 4 - 2),.int .i64 (V / 16 % 3)] 210))).two 7 (.slice M.a7 P.es.length M.c7) rfl
 have HM0:=hide ((R2.drew.below (al_below w2.drew (.cells #[.string ⟨#[103,111]⟩,.string ⟨#[120]⟩,.string ⟨#[98,97]⟩,.string ⟨#[]⟩] 9))).below (al_below (w2.drew.alloc (.cells #[.string ⟨#[103,111]⟩,.string ⟨#[120]⟩,.string ⟨#[98,97]⟩,.string ⟨#[]⟩] 9)) (.cells #[.string ⟨#[]⟩,.int .i64 (V / 4 % 4 - 2),.int .i64 (V / 16 % 3)] 210)))
 have HM1:=hide ((R2.below (al_below w2 (.cells #[.string ⟨#[103,111]⟩,.string ⟨#[120]⟩,.string ⟨#[98,97]⟩,.string ⟨#[]⟩] 9))).drew.below (al_below (w2.alloc (.cells #[.string ⟨#[103,111]⟩,.string ⟨#[120]⟩,.string ⟨#[98,97]⟩,.string ⟨#[]⟩] 9)).drew (.cells #[.string ⟨#[]⟩,.int .i64 (V / 4 % 4 - 2),.int .i64 (V / 16 % 3)] 210)))
 have HM2:=hide ((R2.below (al_below w2 (.cells #[.string ⟨#[103,111]⟩,.string ⟨#[120]⟩,.string ⟨#[98,97]⟩,.string ⟨#[]⟩] 9))).below (al_below (w2.alloc (.cells #[.string ⟨#[103,111]⟩,.string ⟨#[120]⟩,.string ⟨#[98,97]⟩,.string ⟨#[]⟩] 9)) (.cells #[.string ⟨#[]⟩,.int .i64 (V / 4 % 4 - 2),.int .i64 (V / 16 % 3)] 210))).drew
 have HM3:=hide ((R2.below (al_below w2 (.cells #[.string ⟨#[103,111]⟩,.string ⟨#[120]⟩,.string ⟨#[98,97]⟩,.string ⟨#[]⟩] 9))).below (al_below (w2.alloc (.cells #[.string ⟨#[103,111]⟩,.string ⟨#[120]⟩,.string ⟨#[98,97]⟩,.string ⟨#[]⟩] 9)) (.cells #[.string ⟨#[]⟩,.int .i64 (V / 4 % 4 - 2),.int .i64 (V / 16 % 3)] 210)))
 have HO0:=hide HM0.out.m.o.e
 have hS0:=HM0.out.m.d.sz
 have HO1:=hide HM1.out.m.o.e
 have hS1:=HM1.out.m.d.sz
 have HO2:=hide HM2.out.m.o.e
 have hS2:=HM2.out.m.d.sz
 have HO3:=hide HM3.out.m.o.e
 have hS3:=HM3.out.m.d.sz
 have HN0:=hide (cells_at (w2.drew.alloc (.cells #[.string ⟨#[103,111]⟩,.string ⟨#[120]⟩,.string ⟨#[98,97]⟩,.string ⟨#[]⟩] 9)) (w2.heap.size+1) _ 210 (clX (⟨#[]⟩,V / 4 % 4 - 2,V / 16 % 3)) rfl (by simp [drw_sz]))
 have HN1:=hide (cells_at (w2.alloc (.cells #[.string ⟨#[103,111]⟩,.string ⟨#[120]⟩,.string ⟨#[98,97]⟩,.string ⟨#[]⟩] 9)).drew (w2.heap.size+1) _ 210 (clX (⟨#[]⟩,V / 4 % 4 - 2,V / 16 % 3)) rfl (by simp [drw_sz]))
 have HN2:=hide (cells_at (w2.alloc (.cells #[.string ⟨#[103,111]⟩,.string ⟨#[120]⟩,.string ⟨#[98,97]⟩,.string ⟨#[]⟩] 9)) (w2.heap.size+1) _ 210 (clX (⟨#[]⟩,V / 4 % 4 - 2,V / 16 % 3)) rfl (by simp [drw_sz]))
 have HN3:=hide (cells_at (w2.alloc (.cells #[.string ⟨#[103,111]⟩,.string ⟨#[120]⟩,.string ⟨#[98,97]⟩,.string ⟨#[]⟩] 9)) (w2.heap.size+1) _ 210 (clX (⟨#[]⟩,V / 4 % 4 - 2,V / 16 % 3)) rfl (by simp [drw_sz]))
 have ct:V.tmod 4=3:=by rw [Int.tmod_eq_emod_of_nonneg y0];exact c1
 have e4:IntKind.i64.wrap (V.tdiv 4)=V / 4:=by rw [Int.tdiv_eq_ediv_of_nonneg y0,wraps62 _ (by omega) (by omega)]
 have e16:IntKind.i64.wrap (V.tdiv 16)=V / 16:=by rw [Int.tdiv_eq_ediv_of_nonneg y0,wraps62 _ (by omega) (by omega)]
 have e44:(V / 4).tmod 4=V / 4 % 4:=Int.tmod_eq_emod_of_nonneg (by omega)
 have e163:(V / 16).tmod 3=V / 16 % 3:=Int.tmod_eq_emod_of_nonneg (by omega)
 have ew:IntKind.i64.wrap (V / 4 % 4 - 2)=V / 4 % 4 - 2:=wrap_small _ (by omega) (by omega)
 obtain ⟨iX,hiX,hz0iX,hz1iX,hz2iX⟩:=info_parts infoX
 have HR2:=hide R2
 clear R2
 go_wp2_with fail
 go_region_law (first
  | (refine step_append_lies _ rfl _ _ 47 rfl w.heap.size 210 iX (.agg #[.string ⟨#[]⟩,.int .i64 0,.int .i64 0]) 3 32 Tryz.underlying47 hiX hz0iX hz1iX hz2iX rfl (by decide) (.slice M.a7 P.es.length M.c7) P.es.length (P.es.flatMap clX) rfl (by first | exact HO0.out | exact HO1.out | exact HO2.out | exact HO3.out) ⟨w2.heap.size+1,0,none⟩ 1 1 (clX (⟨#[]⟩,V / 4 % 4 - 2,V / 16 % 3)) rfl rfl (by first | exact HN0.out | exact HN1.out | exact HN2.out | exact HN3.out) (by intro u hu;simp [clI,clT,clX] at hu;first | (subst hu;rfl) | (rcases hu with rfl | rfl | rfl <;> rfl)) (by decide) (by unfold maxLen;omega) (by omega) (by first | exact hS0 | exact hS1 | exact hS2 | exact hS3) _ rfl ?_;intro g4 c4 w5 hown hgr hat hlt4;obtain ⟨p9,q9⟩:=(show _∧_ from (by first | exact HM0.out.cell4 HO0.out hgr (by decide) 7 (u:=.slice M.a7 P.es.length M.c7) rfl | exact HM1.out.cell4 HO1.out hgr (by decide) 7 (u:=.slice M.a7 P.es.length M.c7) rfl | exact HM2.out.cell4 HO2.out hgr (by decide) 7 (u:=.slice M.a7 P.es.length M.c7) rfl | exact HM3.out.cell4 HO3.out hgr (by decide) 7 (u:=.slice M.a7 P.es.length M.c7) rfl))))
 all_goals
  have HF:=hide (show MRU U W w (w5.setCell ⟨W.heap.size,7,none⟩ (.slice (some ⟨g4,0,none⟩) (P.es.length+1) c4)) r a n c zs (k+1+1) W.heap.size (W.heap.size+1) _ _ from (by first | exact MRU.exp (x:=(⟨#[]⟩,V / 4 % 4 - 2,V / 16 % 3)) HM0.out hown hgr hat | exact MRU.exp (x:=(⟨#[]⟩,V / 4 % 4 - 2,V / 16 % 3)) HM1.out hown hgr hat | exact MRU.exp (x:=(⟨#[]⟩,V / 4 % 4 - 2,V / 16 % 3)) HM2.out hown hgr hat | exact MRU.exp (x:=(⟨#[]⟩,V / 4 % 4 - 2,V / 16 % 3)) HM3.out hown hgr hat))
  clear HM0 HO0 HN0 hS0 HM1 HO1 HN1 hS1 HM2 HO2 HN2 hS2 HM3 HO3 HN3 hS3 hown hgr hat hlt4 p9 q9 p0 q0 p1 q1 p2 q2 HR2
  generalize w5.setCell ⟨W.heap.size,7,none⟩ (.slice (some ⟨g4,0,none⟩) (P.es.length+1) c4)=W5 at *
  obtain ⟨b0,b1,b2,b3,b4,b5,b6,b7⟩:=HF.out.m.box.eight'
  obtain ⟨f0,f1,f2,f3,f4,f5,f6,f7⟩:=HF.out.m.box.froz
  obtain ⟨r0,r1,r2,r3,r4,r5,r6,r7⟩:=z8_cells HF.out.res
  obtain ⟨s0,s1,s2,s3,s4,s5,s6,s7⟩:=HF.out.res.froz
  go_wp2
  refine spl_end HF.out.res rfl _ _ _ _ _ _ _ _ _ _ rfl ?_
  exact spu_fin HF.out _ _ _ _ _ _ _ _ (by simp [modV])
def exE (t:Nat):List Ex:=(List.range t).map fun (q:Nat)=>((⟨#[101]⟩:ByteArray)++strOf [97+(q:Int)],(-1:Int),(0:Int))
theorem exE_succ (t:Nat):exE (t+1)=exE t++[((⟨#[101]⟩:ByteArray)++strOf [97+(t:Int)],-1,0)]:=by simp [exE,List.range_succ]
theorem exE_len (t:Nat):(exE t).length=t:=by simp [exE]
theorem bs_one (wr:World) (x:Int) (h:0≤x∧x≤255):BS (wr.alloc (.cells #[.int .u8 x] 5)) (some ⟨wr.heap.size,0,none⟩) 1 1 [x]:=
 ⟨rfl,by unfold maxLen;omega,fun z hz=>by simp at hz;subst hz;exact h,fun _=>⟨wr.heap.size,0,rfl,fun i hi=>by
  obtain rfl:i=0:=by omega
  exact (Blk.new wr #[.int .u8 x] 5).cell 0⟩,Nat.le_refl _⟩
set_option maxHeartbeats 2000000 in
theorem sp10 (zs:List Int) (k:Nat) (K V:Int) (E1:Hid (zs.getD k 0=K)) (E2:Hid (zs.getD (k+1) 0=V)) (z0:0≤K) (z1:K≤255) (y0:0≤V) (y1:V≤255) (P:PMod) (DP:DnR P) (N:Nat) (c0:K % 12=10) (c1:(N:Int)=16+V % 2):SpU zs k P { P with es:=P.es++exE (N - P.es.length) } (k+2):=by
 intro U w W r a n c M D o ds hU hR
 have R0:=mru_spoil D o ds hU hR
 have hs0:=D.sz
 have hel:=DP.e.1
 clear D o ds hU hR
 go_enter Tryz.func136,Tryz.ntmps136
 go_wp2_with fail
 refine (R0.next K E1).mono ?_
 rintro e w1 ⟨rfl,R1⟩
 clear R0
 go_wp2_with fail
 refine (R1.next V E2).mono ?_
 rintro e w2 ⟨rfl,R2⟩
 clear R1 E1 E2
 obtain ⟨iX,hiX,hz0iX,hz1iX,hz2iX⟩:=info_parts infoX
 have HM0:=hide R2
 clear R2
 go_wp2_with fail
 go_loopw [8] (fun i wr=>∃ (t:Nat) (M:Ma),P.es.length+t≤N∧i=.int .i64 t∧MRU U W w wr r a n c zs (k+1+1) W.heap.size (W.heap.size+1) { P with es:=P.es++exE t } M) (fun i _=>18 - (intOf i).toNat)
 case atStart=>exact ⟨0,M,by omega,rfl,by have:=HM0.out;simpa [exE] using this⟩
 case round=>
  obtain ⟨t,M2,ht,rfl,HM⟩:=hrel
  generalize wr=wr1 at *
  clear HM0
  have hSl:(P.es++exE t).length=P.es.length+t:=by simp [exE_len]
  obtain ⟨x8,hx8⟩:∃ x8:Int,x8=97+(t:Int):=⟨_,rfl⟩
  have ES:=hide (show P.es++exE (t+1)=(P.es++exE t)++[((⟨#[101]⟩:ByteArray)++strOf [x8],-1,0)] by rw [exE_succ,List.append_assoc,hx8])
  have ET:=hide (fun u (h:u=t)=>show P.es++exE u=P.es++exE t by rw [h])
  generalize P.es++exE t=S at *
  obtain ⟨b7,f7⟩:=HM.two 7 (.slice M2.a7 S.length M2.c7) rfl
  by_cases hlt:P.es.length+t<N
  ·have hlt':(S.length:Int)<16+V % 2:=by omega
   have hS3:S.length≤17:=by omega
   have ew:IntKind.u8.wrap (97+(t:Int))=x8:=by rw [hx8];exact u8_small _ (by omega) (by omega)
   have hcv:(convert 22 9 (.slice (some ⟨wr1.heap.size,0,none⟩) 1 1)).run Tryz.prog (wr1.alloc (.cells #[.int .u8 x8] 5))=.ok (.string (strOf [x8])) (wr1.alloc (.cells #[.int .u8 x8] 5)):=run_text _ _ _ _ _ (bs_one wr1 x8 (by omega))
   have hss:(strOf [x8]).size=1:=strOf_size _
   have hn1:¬ 9223372036854775807<1+(strOf [x8]).size:=by omega
   have hn2:¬ 9223372036854775807<(⟨#[101]⟩:ByteArray).size+(strOf [x8]).size:=by rw [hss];decide
   have HM1:=HM.below (al_below wr1 (.cells #[.int .u8 x8] 5))
   obtain ⟨b7a,f7a⟩:=HM1.two 7 (.slice M2.a7 S.length M2.c7) rfl
   have hs1:(wr1.alloc (.cells #[.int .u8 x8] 5)).heap.size=wr1.heap.size+1:=by simp
   have HMA:=hide (HM1.below (al_below _ (.cells #[.string ((⟨#[101]⟩:ByteArray)++strOf [x8]),.int .i64 (-1),.int .i64 0] 210)))
   obtain ⟨b7b,f7b⟩:=HMA.out.two 7 (.slice M2.a7 S.length M2.c7) rfl
   have HOW:=hide HMA.out.m.o.e
   have HNW:=hide (cells_at (wr1.alloc (.cells #[.int .u8 x8] 5)) (wr1.heap.size+1) _ 210 (clX ((⟨#[101]⟩:ByteArray)++strOf [x8],-1,0)) rfl hs1.symm)
   have HSZ:=hide HMA.out.m.d.sz
   have HSL:=hide hSl
   clear HM HM1 hSl hs1 hx8 hss
   generalize strOf [x8]=sx at *
   go_wp2_with (at_builtin;refine wpList_append_lies _ rfl _ _ 47 rfl w.heap.size 210 iX (.agg #[.string ⟨#[]⟩,.int .i64 0,.int .i64 0]) 3 32 Tryz.underlying47 hiX hz0iX hz1iX hz2iX rfl (by decide) (.slice M2.a7 S.length M2.c7) S.length (S.flatMap clX) rfl HOW.out ⟨wr1.heap.size+1,0,none⟩ 1 1 (clX ((⟨#[101]⟩:ByteArray)++sx,-1,0)) rfl rfl HNW.out (by intro u hu;simp [clX] at hu;rcases hu with rfl | rfl | rfl <;> rfl) (by decide) (by unfold maxLen;omega) (by omega) HSZ.out _ rfl ?_;intro g4 c4 w5 hown hgr hat hlt4;obtain ⟨p4,q4⟩:=HMA.out.cell4 HOW.out hgr (by decide) 7 (u:=.slice M2.a7 S.length M2.c7) rfl)
   have HF:=hide (MRU.exp (x:=((⟨#[101]⟩:ByteArray)++sx,-1,0)) HMA.out hown hgr hat)
   clear HMA HOW HNW HSZ hown hgr hat hlt4 b7 f7 b7a f7a b7b f7b hcv
   go_wp2
   go_roundw
   case rel=>exact ⟨t+1,by omega,by go_num,{ M2 with a7:=some ⟨g4,0,none⟩,c7:=c4 },by rw [ES.out];exact HF.out⟩
   case measure=>simp [intOf];omega
  ·have hlt':¬ (S.length:Int)<16+V % 2:=by omega
   have HF:=hide HM
   have HEQ:=hide (ET.out (N - P.es.length) (by omega))
   clear HM b7 f7 hSl ES
   obtain ⟨b0,b1,b2,b3,b4,b5,b6,b7⟩:=HF.out.m.box.eight'
   obtain ⟨f0,f1,f2,f3,f4,f5,f6,f7⟩:=HF.out.m.box.froz
   obtain ⟨r0,r1,r2,r3,r4,r5,r6,r7⟩:=z8_cells HF.out.res
   obtain ⟨s0,s1,s2,s3,s4,s5,s6,s7⟩:=HF.out.res.froz
   go_wp2
   refine spl_end HF.out.res rfl _ _ _ _ _ _ _ _ _ _ rfl ?_
   rw [HEQ.out]
   exact spu_fin HF.out _ _ _ _ _ _ _ _ rfl
theorem og_one (W:World) (g base:Nat) (hg:g=W.heap.size) (hb:base≤g):OG 3 1 clI (W.alloc (.cells #[.int .i64 0] 3)) base (.slice (some ⟨g,0,none⟩) 1 1) [0]:=by
 subst hg
 exact og_mk 3 1 clI W base hb [0] _ rfl rfl (by unfold maxLen;simp)
theorem four_banks (w2:World):OBk (((((w2.alloc (.cells #[.int .i64 0] 3)).alloc (.cells #[.int .i64 0] 3)).alloc (.cells #[.int .i64 0] 3)).alloc (.cells #[.int .i64 0] 3)).alloc (.cells #[.slice (some ⟨w2.heap.size,0,none⟩) 1 1,.slice (some ⟨w2.heap.size+1,0,none⟩) 1 1,.slice (some ⟨w2.heap.size+1+1,0,none⟩) 1 1,.slice (some ⟨w2.heap.size+1+1+1,0,none⟩) 1 1] 29)) w2.heap.size (.slice (some ⟨w2.heap.size+1+1+1+1,0,none⟩) 4 4) [(some ⟨w2.heap.size,0,none⟩,1,1,[0]),(some ⟨w2.heap.size+1,0,none⟩,1,1,[0]),(some ⟨w2.heap.size+1+1,0,none⟩,1,1,[0]),(some ⟨w2.heap.size+1+1+1,0,none⟩,1,1,[0])]:=by
 have o1:=og_one w2 w2.heap.size w2.heap.size rfl (Nat.le_refl _)
 have s1:(w2.alloc (.cells #[.int .i64 0] 3)).heap.size=w2.heap.size+1:=by simp
 generalize w2.alloc (.cells #[.int .i64 0] 3)=u1 at *
 have o2:=og_one u1 (w2.heap.size+1) w2.heap.size s1.symm (by omega)
 have b2:=al_below u1 (.cells #[.int .i64 0] 3)
 have s2:(u1.alloc (.cells #[.int .i64 0] 3)).heap.size=w2.heap.size+1+1:=by simp [s1]
 generalize u1.alloc (.cells #[.int .i64 0] 3)=u2 at *
 have o3:=og_one u2 (w2.heap.size+1+1) w2.heap.size s2.symm (by omega)
 have b3:=al_below u2 (.cells #[.int .i64 0] 3)
 have s3:(u2.alloc (.cells #[.int .i64 0] 3)).heap.size=w2.heap.size+1+1+1:=by simp [s2]
 generalize u2.alloc (.cells #[.int .i64 0] 3)=u3 at *
 have o4:=og_one u3 (w2.heap.size+1+1+1) w2.heap.size s3.symm (by omega)
 have b4:=al_below u3 (.cells #[.int .i64 0] 3)
 have s4:(u3.alloc (.cells #[.int .i64 0] 3)).heap.size=w2.heap.size+1+1+1+1:=by simp [s3]
 generalize u3.alloc (.cells #[.int .i64 0] 3)=u4 at *
 have b5:=al_below u4 (.cells #[.slice (some ⟨w2.heap.size,0,none⟩) 1 1,.slice (some ⟨w2.heap.size+1,0,none⟩) 1 1,.slice (some ⟨w2.heap.size+1+1,0,none⟩) 1 1,.slice (some ⟨w2.heap.size+1+1+1,0,none⟩) 1 1] 29)
 have oh:=og_mk 29 1 (fun B:Bk=>[Value.slice B.1 B.2.1 B.2.2.1]) u4 w2.heap.size (by omega) ([(some ⟨w2.heap.size,0,none⟩,1,1,[0]),(some ⟨w2.heap.size+1,0,none⟩,1,1,[0]),(some ⟨w2.heap.size+1+1,0,none⟩,1,1,[0]),(some ⟨w2.heap.size+1+1+1,0,none⟩,1,1,[0])]:List Bk) #[.slice (some ⟨w2.heap.size,0,none⟩) 1 1,.slice (some ⟨w2.heap.size+1,0,none⟩) 1 1,.slice (some ⟨w2.heap.size+1+1,0,none⟩) 1 1,.slice (some ⟨w2.heap.size+1+1+1,0,none⟩) 1 1] rfl rfl (by unfold maxLen;simp)
 rw [s4] at oh
 refine ⟨oh,fun B hB=>?_,?_⟩
 ·simp only [List.mem_cons,List.not_mem_nil,or_false] at hB
  rcases hB with rfl | rfl | rfl | rfl
  ·exact ⟨rfl,(((o1.below b2).below b3).below b4).below b5⟩
  ·exact ⟨rfl,((o2.below b3).below b4).below b5⟩
  ·exact ⟨rfl,(o3.below b4).below b5⟩
  ·exact ⟨rfl,o4.below b5⟩
 ·simp [Value.ownBlock]
  omega
set_option maxHeartbeats 2000000 in
theorem sp11_0 (zs:List Int) (k:Nat) (K V:Int) (E1:Hid (zs.getD k 0=K)) (E2:Hid (zs.getD (k+1) 0=V)) (z0:0≤K) (z1:K≤255) (y0:0≤V) (y1:V≤255) (P:PMod) (DP:DnR P) (c0:K % 12=11) (c1:V % 2=0):SpU zs k P { P with bl:=[[0],[0],[0],[0]] } (k+2):=by
 intro U w W r a n c M D o ds hU hR
 have R0:=mru_spoil D o ds hU hR
 have hs0:=D.sz
 clear D o ds hU hR
 go_enter Tryz.func136,Tryz.ntmps136
 go_wp2_with fail
 refine (R0.next K E1).mono ?_
 rintro e w1 ⟨rfl,R1⟩
 clear R0
 go_wp2_with fail
 refine (R1.next V E2).mono ?_
 rintro e w2 ⟨rfl,R2⟩
 clear R1 E1 E2
 have R3:=(((((R2.below (al_below w2 (.cells #[.int .i64 0] 3))).below (al_below (w2.alloc (.cells #[.int .i64 0] 3)) (.cells #[.int .i64 0] 3))).below (al_below ((w2.alloc (.cells #[.int .i64 0] 3)).alloc (.cells #[.int .i64 0] 3)) (.cells #[.int .i64 0] 3))).below (al_below (((w2.alloc (.cells #[.int .i64 0] 3)).alloc (.cells #[.int .i64 0] 3)).alloc (.cells #[.int .i64 0] 3)) (.cells #[.int .i64 0] 3))).below (al_below ((((w2.alloc (.cells #[.int .i64 0] 3)).alloc (.cells #[.int .i64 0] 3)).alloc (.cells #[.int .i64 0] 3)).alloc (.cells #[.int .i64 0] 3)) (.cells #[.slice (some ⟨w2.heap.size,0,none⟩) 1 1,.slice (some ⟨w2.heap.size+1,0,none⟩) 1 1,.slice (some ⟨w2.heap.size+1+1,0,none⟩) 1 1,.slice (some ⟨w2.heap.size+1+1+1,0,none⟩) 1 1] 29)))
 obtain ⟨b0,b1,b2,b3,b4,b5,b6,b7⟩:=R3.m.box.eight'
 obtain ⟨f0,f1,f2,f3,f4,f5,f6,f7⟩:=R3.m.box.froz
 obtain ⟨r0,r1,r2,r3,r4,r5,r6,r7⟩:=z8_cells R3.res
 obtain ⟨s0,s1,s2,s3,s4,s5,s6,s7⟩:=R3.res.froz
 have HF:=hide (MRU.newbanks R2 R3 (four_banks w2) rfl [[0],[0],[0],[0]] rfl)
 clear R2 R3
 go_wp2
 refine spl_end HF.out.res rfl _ _ _ _ _ _ _ _ _ _ rfl ?_
 exact spu_fin HF.out _ _ _ _ _ _ _ _ rfl
set_option maxHeartbeats 2000000 in
theorem sp11_1 (zs:List Int) (k:Nat) (K V:Int) (E1:Hid (zs.getD k 0=K)) (E2:Hid (zs.getD (k+1) 0=V)) (z0:0≤K) (z1:K≤255) (y0:0≤V) (y1:V≤255) (P:PMod) (DP:DnR P) (c0:K % 12=11) (c1:V % 2=1):SpU zs k P { P with bl:=[[0],[0],[0],[0]]++[[0]] } (k+2):=by
 intro U w W r a n c M D o ds hU hR
 have R0:=mru_spoil D o ds hU hR
 have hs0:=D.sz
 clear D o ds hU hR
 go_enter Tryz.func136,Tryz.ntmps136
 go_wp2_with fail
 refine (R0.next K E1).mono ?_
 rintro e w1 ⟨rfl,R1⟩
 clear R0
 go_wp2_with fail
 refine (R1.next V E2).mono ?_
 rintro e w2 ⟨rfl,R2⟩
 clear R1 E1 E2
 have R3:=(((((R2.below (al_below w2 (.cells #[.int .i64 0] 3))).below (al_below (w2.alloc (.cells #[.int .i64 0] 3)) (.cells #[.int .i64 0] 3))).below (al_below ((w2.alloc (.cells #[.int .i64 0] 3)).alloc (.cells #[.int .i64 0] 3)) (.cells #[.int .i64 0] 3))).below (al_below (((w2.alloc (.cells #[.int .i64 0] 3)).alloc (.cells #[.int .i64 0] 3)).alloc (.cells #[.int .i64 0] 3)) (.cells #[.int .i64 0] 3))).below (al_below ((((w2.alloc (.cells #[.int .i64 0] 3)).alloc (.cells #[.int .i64 0] 3)).alloc (.cells #[.int .i64 0] 3)).alloc (.cells #[.int .i64 0] 3)) (.cells #[.slice (some ⟨w2.heap.size,0,none⟩) 1 1,.slice (some ⟨w2.heap.size+1,0,none⟩) 1 1,.slice (some ⟨w2.heap.size+1+1,0,none⟩) 1 1,.slice (some ⟨w2.heap.size+1+1+1,0,none⟩) 1 1] 29)))
 obtain ⟨b0,b1,b2,b3,b4,b5,b6,b7⟩:=R3.m.box.eight'
 obtain ⟨f0,f1,f2,f3,f4,f5,f6,f7⟩:=R3.m.box.froz
 obtain ⟨r0,r1,r2,r3,r4,r5,r6,r7⟩:=z8_cells R3.res
 obtain ⟨s0,s1,s2,s3,s4,s5,s6,s7⟩:=R3.res.froz
 have R5:=MRU.newbanks R2 R3 (four_banks w2) rfl [[0],[0],[0],[0]] rfl
 have hw5:∃ W5,W5=(((((w2.alloc (.cells #[.int .i64 0] 3)).alloc (.cells #[.int .i64 0] 3)).alloc (.cells #[.int .i64 0] 3)).alloc (.cells #[.int .i64 0] 3)).alloc (.cells #[.slice (some ⟨w2.heap.size,0,none⟩) 1 1,.slice (some ⟨w2.heap.size+1,0,none⟩) 1 1,.slice (some ⟨w2.heap.size+1+1,0,none⟩) 1 1,.slice (some ⟨w2.heap.size+1+1+1,0,none⟩) 1 1] 29)).setCell ⟨W.heap.size,2,none⟩ (.slice (some ⟨w2.heap.size+1+1+1+1,0,none⟩) 4 4):=⟨_,rfl⟩
 obtain ⟨W5,hW5⟩:=hw5
 have hz5:W5.heap.size=w2.heap.size+1+1+1+1+1:=by rw [hW5];simp [size_setCell]
 rw [← hW5] at R5
 have HR5:=hide R5
 have R6:=R5.below (al_below W5 (.cells #[.int .i64 0] 3))
 have R7:=hide (R6.below (al_below (W5.alloc (.cells #[.int .i64 0] 3)) (.cells #[.slice (some ⟨W5.heap.size,0,none⟩) 1 1] 29)))
 have HOX:=hide ((og_one W5 W5.heap.size W5.heap.size rfl (Nat.le_refl _)).below (al_below (W5.alloc (.cells #[.int .i64 0] 3)) (.cells #[.slice (some ⟨W5.heap.size,0,none⟩) 1 1] 29)))
 have HOW:=hide R7.out.m.o.b.head
 have HNW:=hide (cells_at (W5.alloc (.cells #[.int .i64 0] 3)) (W5.heap.size+1) _ 29 [.slice (some ⟨W5.heap.size,0,none⟩) 1 1] rfl (by simp))
 have HSZ:=hide R7.out.m.d.sz
 obtain ⟨x2,y2⟩:=R5.two 2 (.slice (some ⟨w2.heap.size+1+1+1+1,0,none⟩) 4 4) rfl
 obtain ⟨iB,hiB,hz0iB,hz1iB,hz2iB⟩:=info_parts infoB
 clear R2 R3 R5 R6
 rw [hz5] at HOX HNW HOW R7 HSZ
 rw [hW5] at HOX HNW HOW R7 HSZ x2 y2 HR5
 go_wp2_with (at_builtin;refine wpList_append_lies _ rfl _ _ 45 rfl w.heap.size 29 iB (.slice none 0 0) 1 24 Tryz.underlying45 hiB hz0iB hz1iB hz2iB rfl (by decide) (.slice (some ⟨w2.heap.size+1+1+1+1,0,none⟩) 4 4) 4 _ rfl HOW.out ⟨w2.heap.size+1+1+1+1+1+1,0,none⟩ 1 1 [.slice (some ⟨w2.heap.size+1+1+1+1+1,0,none⟩) 1 1] rfl rfl HNW.out (by intro u hu;simp at hu;subst hu;rfl) (by decide) (by unfold maxLen;omega) (by omega) HSZ.out _ rfl ?_;intro g4 c4 w5 hown hgr hat hlt4;obtain ⟨p4,q4⟩:=R7.out.cell4 HOW.out hgr (by decide) 2 (u:=.slice (some ⟨w2.heap.size+1+1+1+1,0,none⟩) 4 4) rfl;obtain ⟨b0,b1,b2,b3,b4,b5,b6,b7⟩:=(box_grown R7.out.m.box HOW.out hgr (by decide)).eight';obtain ⟨r0,r1,r2,r3,r4,r5,r6,r7⟩:=z8_cells (box_grown R7.out.res HOW.out hgr (by decide));obtain ⟨s0,s1,s2,s3,s4,s5,s6,s7⟩:=(box_grown R7.out.res HOW.out hgr (by decide)).froz)
 have HF:=hide (MRU.bankX (x:=[0]) HR5.out R7.out rfl HOX.out (by simp [size_setCell]) hown hgr hat)
 refine spl_end HF.out.res rfl _ _ _ _ _ _ _ _ _ _ rfl ?_
 exact spu_fin HF.out _ _ _ _ _ _ _ _ (by simp [modV])
end Go.Proofs.YtngdgogjlpjjpadGreat
