import Derived.Test.YtngdgogjlpjjpaeGreatP14
import Derived.Test.YtngdgogjlpjjpaeGreatP19
import Derived.Test.YtngdgogjlpjjpaeGreatP24
import Derived.Test.YtngdgogjlpjjpaeGreatP28
import Derived.Test.YtngdgogjlpjjpaeGreatP29
import Derived.Test.YtngdgogjlpjjpaeGreatP35
namespace Go.Proofs.YtngdgogjlpjjpaeGreat
open Go.RowKit Classical
set_option linter.unusedVariables false
set_option linter.unusedSimpArgs false
set_option maxRecDepth 100000
set_option maxHeartbeats 8000000 in
theorem iLoad_any (g n:Nat)(gs:List Nat)(bl:List Bk)(s c k d:Int)(w:World)(H:Img w g n gs bl)(hn:n≤1048576):
 Calls Tryz.prog 19 #[.slice (some ⟨g,0,none⟩) n n,.agg #[.int .i64 s,.int .i64 c,.int .i64 k,.int .i64 d]] w (LdP w (zsL bl) n s c k d (fun v _=>v=.slice none 0 0)):=by
 obtain ⟨V,hV⟩:∃ V,V=(w.alloc (.cells #[.int .i64 s,.int .i64 c,.int .i64 k,.int .i64 d] 44)).alloc (.cells #[.slice none 0 0,.int .i64 0,.int .i64 0,.int .i64 0,.int .i64 0,.int .i64 0,.slice none 0 0,.slice none 0 0,.slice none 0 0,.slice none 0 0,.int .i64 0,.int .i64 0,.slice none 0 0,.slice none 0 0,.int .i64 0] 54):=⟨_,rfl⟩
 have bV:Below w.heap.size w V:=by rw [hV];exact ((Below.refl _ _).alloc (Nat.le_refl _) _).alloc (by simp) _
 have k0:Blk V w.heap.size #[.int .i64 s,.int .i64 c,.int .i64 k,.int .i64 d] 44:=by rw [hV];exact (Blk.new w _ _).alloc _
 have k1:Blk V (w.heap.size+1) z15 54:=by rw [hV];have:=Blk.new (w.alloc (.cells #[.int .i64 s,.int .i64 c,.int .i64 k,.int .i64 d] 44)) z15 54;simpa [z15] using this
 have CC:=hide (iConfigOk_any s c k d V)
 have H1:=H.below bV
 obtain ⟨u0,u1,u2,u3⟩:=show V.cell? ⟨w.heap.size,0,none⟩=some (.int .i64 s)∧V.cell? ⟨w.heap.size,1,none⟩=some (.int .i64 c)∧V.cell? ⟨w.heap.size,2,none⟩=some (.int .i64 k)∧V.cell? ⟨w.heap.size,3,none⟩=some (.int .i64 d) from ⟨k0.cell 0,k0.cell 1,k0.cell 2,k0.cell 3⟩
 have HV:=hide hV
 have HK:=hide (And.intro bV (And.intro k0 (And.intro k1 H1)))
 have HF:=hide (show ∀ (X:World),Below V.heap.size V X→∀ (cd:Int) (at':Nat),ldc (zsL bl) n s c k d=(cd,at')→cd≠0→LdP w (zsL bl) n s c k d (fun v _=>v=.slice none 0 0) (.returned (.tuple #[.agg #[.slice none 0 0,.int .i64 0,.int .i64 0,.int .i64 0,.int .i64 0,.int .i64 0,.slice none 0 0,.slice none 0 0,.slice none 0 0,.slice none 0 0,.int .i64 0,.int .i64 0,.slice none 0 0,.slice none 0 0,.int .i64 0],.int .i64 cd,.int .i64 (at':Nat)])) (st15 X (w.heap.size+1) (.slice none 0 0) (.int .i64 0) (.int .i64 0) (.int .i64 0) (.int .i64 0) (.int .i64 0) (.slice none 0 0) (.slice none 0 0) (.slice none 0 0) (.slice none 0 0) (.int .i64 0) (.int .i64 0) (.slice none 0 0) (.slice none 0 0) (.int .i64 0)) from fun X hX cd at' e1 e2=>by
  refine ⟨below_turn (bV.trans (hX.mono bV.size)) (turn_st15 X (w.heap.size+1) _ _ _ _ _ _ _ _ _ _ _ _ _ _ _) (fun j hj=>by omega) (Nat.le_trans bV.size hX.size),.inl ⟨by rw [e1];exact e2,by rw [e1];rfl⟩⟩)
 clear hV bV k0 k1 H H1
 go_enter Tryz.func19,Tryz.ntmps19
 go_wp2_with (rw [← HV.out])
 refine CC.out.mono ?_
 rintro e w1 ⟨rfl,b1⟩
 have K1:=HK.out.2.2.1.below b1
 unfold z15 at K1
 obtain ⟨c0,c1,c2,c3,c4,c5,c6,c7,c8,c9,c10,c11,c12,c13,c14⟩:=K1.mc
 have f0:=K1.frozen 0
 have f1:=K1.frozen 1
 have f2:=K1.frozen 2
 have f3:=K1.frozen 3
 have f4:=K1.frozen 4
 have f5:=K1.frozen 5
 have f6:=K1.frozen 6
 have f7:=K1.frozen 7
 have f8:=K1.frozen 8
 have f9:=K1.frozen 9
 have f10:=K1.frozen 10
 have f11:=K1.frozen 11
 have f12:=K1.frozen 12
 have f13:=K1.frozen 13
 have f14:=K1.frozen 14
 have HB1:=hide b1
 clear u0 u1 u2 u3 K1 b1 CC
 cases hcf:cfo s c k d
 ·have HC:=hide hcf
  clear hcf
  go_wp2
  refine li_end (HK.out.2.2.1.below HB1.out) _ _ _ _ _ _ _ _ _ _ _ _ _ _ _ _ _ rfl rfl rfl ?_
  exact HF.out w1 HB1.out 1 0 (by unfold ldc;rw [if_pos HC.out]) (by decide)
 have HC:=hide hcf
 clear hcf
 by_cases hn1:n<1∨4<n
 ·have HN:=hide hn1
  rcases hn1 with h | h
  ·have h':(n:Int)<1:=by omega
   go_wp2
   refine li_end (HK.out.2.2.1.below HB1.out) _ _ _ _ _ _ _ _ _ _ _ _ _ _ _ _ _ rfl rfl rfl ?_
   exact HF.out w1 HB1.out 2 0 (by unfold ldc;rw [if_neg (by rw [HC.out];decide),if_pos HN.out]) (by decide)
  ·have h':¬ (n:Int)<1:=by omega
   have h2:(4:Int)<(n:Int):=by omega
   go_wp2
   refine li_end (HK.out.2.2.1.below HB1.out) _ _ _ _ _ _ _ _ _ _ _ _ _ _ _ _ _ rfl rfl rfl ?_
   exact HF.out w1 HB1.out 2 0 (by unfold ldc;rw [if_neg (by rw [HC.out];decide),if_pos HN.out]) (by decide)
 have h1:¬ (n:Int)<1:=by omega
 have h2:¬ (4:Int)<(n:Int):=by omega
 have HN:=hide hn1
 have CP:=hide (parseAll_any g n gs bl w1 (HK.out.2.2.2.below HB1.out) (by omega))
 clear hn1 c0 f0 c1 f1 c2 f2 c3 f3 c4 f4 c5 f5 c6 f6 c7 f7 c8 f8 c9 f9 c10 f10 c11 f11 c12 f12 c13 f13 c14 f14
 go_wp2_with fail
 refine CP.out.mono ?_
 intro e w2 hP
 obtain ⟨b2,hP⟩:=hP
 have HB2:=hide (HB1.out.trans (b2.mono HB1.out.size))
 have K1:=HK.out.2.2.1.below HB2.out
 unfold z15 at K1
 obtain ⟨c0,c1,c2,c3,c4,c5,c6,c7,c8,c9,c10,c11,c12,c13,c14⟩:=K1.mc
 have f0:=K1.frozen 0
 have f1:=K1.frozen 1
 have f2:=K1.frozen 2
 have f3:=K1.frozen 3
 have f4:=K1.frozen 4
 have f5:=K1.frozen 5
 have f6:=K1.frozen 6
 have f7:=K1.frozen 7
 have f8:=K1.frozen 8
 have f9:=K1.frozen 9
 have f10:=K1.frozen 10
 have f11:=K1.frozen 11
 have f12:=K1.frozen 12
 have f13:=K1.frozen 13
 have f14:=K1.frozen 14
 clear K1 CP
 rcases hP with ⟨i,hi,hp,hk,rfl⟩ | ⟨hz,a,cap,Lm,β,rfl,O2,hL⟩
 ·have HP:=hide (show ldc (zsL bl) n s c k d=(10+pcd (zsL bl) i,i) by unfold ldc;rw [if_neg (by rw [HC.out];decide),if_neg HN.out,fnz_some hp hk n hi])
  have hi4:i≤4:=by omega
  have hr:=pcd_range (zsL bl) i
  clear hk
  generalize pcd (zsL bl) i=pc at *
  go_wp2
  refine li_end (HK.out.2.2.1.below HB2.out) _ _ _ _ _ _ _ _ _ _ _ _ _ _ _ _ _ rfl rfl rfl ?_
  exact HF.out w2 HB2.out (10+pc) i HP.out (by omega)
 clear c0 f0 c1 f1 c2 f2 c3 f3 c4 f4 c5 f5 c6 f6 c7 f7 c8 f8 c9 f9 c10 f10 c11 f11 c12 f12 c13 f13 c14 f14
 have hlen:Lm.length=n:=by have:=congrArg List.length hL;simpa [pal] using this
 have hps:pmS (Lm.map mdP)=pal (zsL bl) n:=O2.pms.trans hL
 obtain ⟨a',cap',ev,M2⟩:=O2.msd (by omega)
 rw [hlen] at ev M2
 simp only [Value.slice.injEq] at ev
 obtain ⟨rfl,-,rfl⟩:=ev
 have CL:=hide (iLink_any a n cap (Lm.map mdP) s c k d w2 M2)
 rw [hps] at CL
 have HPS:=hide hps
 have HM2:=hide (And.intro M2 (And.intro O2 hL))
 have HZ:=hide (show fnz (pcd (zsL bl)) n=none from fnz_none n hz)
 have HLB:=hide (layB_lk (pal (zsL bl) n) s c k d)
 have HLV:=hide (lkL_v (pal (zsL bl) n) s c k d)
 have hlr:=lkc_range (pal (zsL bl) n) s c k d
 have HLK:=hide (fun h:lkc (pal (zsL bl) n) s c k d=0=>And.intro (lok_lk h) (show lkL (pal (zsL bl) n) s c k d=lay (pal (zsL bl) n) s c k by unfold lkL;rw [if_pos h]))
 have HE4:=hide (show lkc (pal (zsL bl) n) s c k d≠0→ldc (zsL bl) n s c k d=(40+lkc (pal (zsL bl) n) s c k d,0) from fun h=>by unfold ldc;rw [if_neg (by rw [HC.out];decide),if_neg HN.out,HZ.out];dsimp only;rw [if_pos h])
 have HE6:=hide (show lkc (pal (zsL bl) n) s c k d=0→¬ FitP (pal (zsL bl) n) (lay (pal (zsL bl) n) s c k)→ldc (zsL bl) n s c k d=(60,0) from fun h h2=>by unfold ldc;rw [if_neg (by rw [HC.out];decide),if_neg HN.out,HZ.out];dsimp only;rw [if_neg (by rw [h];decide),if_neg h2])
 have HE0:=hide (show lkc (pal (zsL bl) n) s c k d=0→FitP (pal (zsL bl) n) (lay (pal (zsL bl) n) s c k)→ldc (zsL bl) n s c k d=(0,0) from fun h h2=>by unfold ldc;rw [if_neg (by rw [HC.out];decide),if_neg HN.out,HZ.out];dsimp only;rw [if_neg (by rw [h];decide),if_pos h2])
 unfold LkM at CL
 generalize lkc (pal (zsL bl) n) s c k d=cd at *
 have Q0:=HK.out.2.1.below HB2.out
 obtain ⟨u0,u1,u2,u3⟩:=show w2.cell? ⟨w.heap.size,0,none⟩=some (.int .i64 s)∧w2.cell? ⟨w.heap.size,1,none⟩=some (.int .i64 c)∧w2.cell? ⟨w.heap.size,2,none⟩=some (.int .i64 k)∧w2.cell? ⟨w.heap.size,3,none⟩=some (.int .i64 d) from ⟨Q0.cell 0,Q0.cell 1,Q0.cell 2,Q0.cell 3⟩
 have HSB:=hide b2
 clear Q0 M2 O2 hL hps hz b2
 go_wp2_with fail
 refine CL.out.mono ?_
 rintro e w3 ⟨b3,a0,d0,xs,a2,d2,a5,d5,ts,rfl,O3⟩
 have HO3:=hide (O3.lyt HLB.out.r HLV.out)
 have HB3:=hide (HB2.out.trans (b3.mono HB2.out.size))
 have HB23:=hide b3
 clear O3 b3 CL u0 u1 u2 u3
 unfold layV
 by_cases hcd:cd=0
 rotate_left
 ·generalize lkL (pal (zsL bl) n) s c k d=Ly at *
  have b4:Below w3.heap.size w3 (w3.alloc (.cells #[.slice a0 xs.length d0,.int .i64 Ly.stack,.slice a2 Ly.slots.length d2,.int .i64 Ly.flash,.int .i64 Ly.ram,.slice a5 ts.length d5] 36)):=(Below.refl _ _).alloc (Nat.le_refl _) _
  have B4:=HB3.out.trans (b4.mono HB3.out.size)
  have K1:=HK.out.2.2.1.below B4
  unfold z15 at K1
  obtain ⟨c0,c1,c2,c3,c4,c5,c6,c7,c8,c9,c10,c11,c12,c13,c14⟩:=K1.mc
  have f0:=K1.frozen 0
  have f1:=K1.frozen 1
  have f2:=K1.frozen 2
  have f3:=K1.frozen 3
  have f4:=K1.frozen 4
  have f5:=K1.frozen 5
  have f6:=K1.frozen 6
  have f7:=K1.frozen 7
  have f8:=K1.frozen 8
  have f9:=K1.frozen 9
  have f10:=K1.frozen 10
  have f11:=K1.frozen 11
  have f12:=K1.frozen 12
  have f13:=K1.frozen 13
  have f14:=K1.frozen 14
  clear K1
  have HB4:=hide B4
  clear B4 b4
  go_wp2
  refine li_end (HK.out.2.2.1.below HB4.out) _ _ _ _ _ _ _ _ _ _ _ _ _ _ _ _ _ rfl rfl rfl ?_
  exact HF.out _ HB4.out (40+cd) 0 (HE4.out hcd) (by omega)
 subst hcd
 obtain ⟨hlo,hlk⟩:=HLK.out rfl
 rw [hlk] at HO3 HLB HLV
 rw [hlk]
 have HLO:=hide hlo
 have HE60:=hide (HE6.out rfl)
 have HE00:=hide (HE0.out rfl)
 clear hlo hlk HLK HE4 HE6 HE0
 generalize hLy:lay (pal (zsL bl) n) s c k=Ly at *
 have HLy:=hide hLy
 clear hLy
 obtain ⟨w4,hw4⟩:∃ w4,w4=w3.alloc (.cells #[.slice a0 xs.length d0,.int .i64 Ly.stack,.slice a2 Ly.slots.length d2,.int .i64 Ly.flash,.int .i64 Ly.ram,.slice a5 ts.length d5] 36):=⟨_,rfl⟩
 have b4:Below w3.heap.size w3 w4:=by rw [hw4];exact (Below.refl _ _).alloc (Nat.le_refl _) _
 have k4:Blk w4 w3.heap.size #[.slice a0 xs.length d0,.int .i64 Ly.stack,.slice a2 Ly.slots.length d2,.int .i64 Ly.flash,.int .i64 Ly.ram,.slice a5 ts.length d5] 36:=by rw [hw4];exact Blk.new _ _ _
 have B4:=HB3.out.trans (b4.mono HB3.out.size)
 have B24:=HB23.out.trans (b4.mono HB23.out.size)
 have CF:=hide (plansFit_any a n cap (Lm.map mdP) Ly a0 d0 xs a2 d2 a5 d5 ts w4 (HM2.out.1.below B24) (HO3.out.below b4) (by rw [HPS.out];exact HLO.out))
 rw [HPS.out] at CF
 obtain ⟨p0,p1,p2,p3,p4,p5⟩:=k4.ly6
 have HK4:=hide (And.intro B4 (And.intro B24 (And.intro k4 (HO3.out.below b4))))
 have HW4:=hide hw4
 clear hw4 b4 k4 B4 B24
 go_wp2_with (rw [← HW4.out])
 refine CF.out.mono ?_
 rintro e w5 ⟨fb,rfl,hf,b5⟩
 obtain ⟨B4,B24,k4,y4⟩:=HK4.out
 have B5:=B4.trans (b5.mono B4.size)
 have B25:=B24.trans (b5.mono B24.size)
 have HK5:=hide (And.intro B5 (And.intro B25 (And.intro (k4.below b5) (y4.below b5))))
 clear p0 p1 p2 p3 p4 p5 b5 B4 B24 k4 y4 B5 B25 HK4 CF
 cases fb with
 | false=>
   have HFb:=hide (HE60.out (fun q=>by simpa using hf.2 q))
   clear hf
   have K1:=HK.out.2.2.1.below HK5.out.1
   unfold z15 at K1
   obtain ⟨c0,c1,c2,c3,c4,c5,c6,c7,c8,c9,c10,c11,c12,c13,c14⟩:=K1.mc
   have f0:=K1.frozen 0
   have f1:=K1.frozen 1
   have f2:=K1.frozen 2
   have f3:=K1.frozen 3
   have f4:=K1.frozen 4
   have f5:=K1.frozen 5
   have f6:=K1.frozen 6
   have f7:=K1.frozen 7
   have f8:=K1.frozen 8
   have f9:=K1.frozen 9
   have f10:=K1.frozen 10
   have f11:=K1.frozen 11
   have f12:=K1.frozen 12
   have f13:=K1.frozen 13
   have f14:=K1.frozen 14
   clear K1
   go_wp2
   refine li_end (HK.out.2.2.1.below HK5.out.1) _ _ _ _ _ _ _ _ _ _ _ _ _ _ _ _ _ rfl rfl rfl ?_
   exact HF.out _ HK5.out.1 60 0 HFb.out (by decide)
 | true=>
   have HFb:=hide (HE00.out (hf.1 rfl))
   clear hf
   have hcf:=HC.out
   unfold cfo at hcf
   simp at hcf
   have hs0:0≤s:=by omega
   have hs4:s.toNat≤4:=by omega
   obtain ⟨B5,B25,k5,y5⟩:=HK5.out
   have CN:=hide (newMachine_any a n cap (Lm.map mdP) Ly a0 d0 xs a2 d2 a5 d5 ts s.toNat c k d w5 (HM2.out.1.below B25) y5 (by rw [HPS.out];exact HLO.out) hs4)
   unfold NmP at CN
   rw [HPS.out,Int.toNat_of_nonneg hs0] at CN
   obtain ⟨p0,p1,p2,p3,p4,p5⟩:=k5.ly6
   have Q0:=HK.out.2.1.below B5
   obtain ⟨u0,u1,u2,u3⟩:=show w5.cell? ⟨w.heap.size,0,none⟩=some (.int .i64 s)∧w5.cell? ⟨w.heap.size,1,none⟩=some (.int .i64 c)∧w5.cell? ⟨w.heap.size,2,none⟩=some (.int .i64 k)∧w5.cell? ⟨w.heap.size,3,none⟩=some (.int .i64 d) from ⟨Q0.cell 0,Q0.cell 1,Q0.cell 2,Q0.cell 3⟩
   have HNS:=hide (And.intro hs0 hs4)
   clear Q0 B5 B25 k5 y5 hcf hs0 hs4
   go_wp2_with fail
   refine CN.out.mono ?_
   rintro e w6 ⟨gk,a1,n1,e1,a2',n2,e2,a3,n3,e3,gl,rfl,N6,b6⟩
   have B6:=HK5.out.1.trans (b6.mono HK5.out.1.size)
   have B26:=HK5.out.2.1.trans (b6.mono HK5.out.2.1.size)
   have HN6:=hide (And.intro B6 (And.intro B26 (And.intro N6 b6)))
   clear u0 u1 u2 u3 p0 p1 p2 p3 p4 p5 CN N6 b6 B26
   have K1:=HK.out.2.2.1.below B6
   unfold z15 at K1
   obtain ⟨c0,c1,c2,c3,c4,c5,c6,c7,c8,c9,c10,c11,c12,c13,c14⟩:=K1.mc
   have f0:=K1.frozen 0
   have f1:=K1.frozen 1
   have f2:=K1.frozen 2
   have f3:=K1.frozen 3
   have f4:=K1.frozen 4
   have f5:=K1.frozen 5
   have f6:=K1.frozen 6
   have f7:=K1.frozen 7
   have f8:=K1.frozen 8
   have f9:=K1.frozen 9
   have f10:=K1.frozen 10
   have f11:=K1.frozen 11
   have f12:=K1.frozen 12
   have f13:=K1.frozen 13
   have f14:=K1.frozen 14
   clear K1
   clear B6
   generalize hns:s.toNat=ns at *
   have HNE:=hide hns
   clear hns
   go_wp2
   refine li_end (HK.out.2.2.1.below HN6.out.1) _ _ _ _ _ _ _ _ _ _ _ _ _ _ _ _ _ rfl rfl rfl ?_
   obtain ⟨B6,B26,N6,b6⟩:=HN6.out
   obtain ⟨M2,O2,hL⟩:=HM2.out
   have hq:w.heap.size+1<V.heap.size:=HK.out.2.2.1.lt
   have hq1:V.heap.size≤w1.heap.size:=HB1.out.size
   have hq2:V.heap.size≤w5.heap.size:=HK5.out.1.size
   have h25:=HK5.out.2.1.size
   have hbV:=HK.out.1
   have hi:=O2.hi
   have hne:=HNE.out
   subst hne
   rw [hlen] at hi
   refine ⟨below_turn (hbV.trans (B6.mono hbV.size)) (turn_st15 w6 (w.heap.size+1) _ _ _ _ _ _ _ _ _ _ _ _ _ _ _) (fun j hj=>by omega) (Nat.le_trans hbV.size B6.size),.inr ⟨HFb.out,a,cap,Lm,β,w5.heap.size,gk,a1,n1,e1,a2',n2,e2,a3,n3,e3,gl,.slice none 0 0,rfl,rfl,?_,hL,?_,?_,?_⟩⟩
   ·exact ((O2.below B26).turn (turn_st15 w6 (w.heap.size+1) _ _ _ _ _ _ _ _ _ _ _ _ _ _ _) (fun j hj=>by omega)).mono' (Nat.le_trans hbV.size hq1)
   ·rw [HLy.out]
    exact N6.turn (turn_st15 w6 (w.heap.size+1) _ _ _ _ _ _ _ _ _ _ _ _ _ _ _) (fun j hj=>by omega)
   ·exact Nat.le_trans hbV.size hq2
   ·omega
end Go.Proofs.YtngdgogjlpjjpaeGreat
