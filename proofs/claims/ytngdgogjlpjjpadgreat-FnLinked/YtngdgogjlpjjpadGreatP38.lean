import Derived.Test.YtngdgogjlpjjpadGreatP27
import Derived.Test.YtngdgogjlpjjpadGreatP31
import Derived.Test.YtngdgogjlpjjpadGreatP34
import Derived.Test.YtngdgogjlpjjpadGreatP35
import Derived.Test.YtngdgogjlpjjpadGreatP37
namespace Go.Proofs.YtngdgogjlpjjpadGreat
open Go.RowKit Classical
set_option linter.unusedVariables false
set_option linter.unusedSimpArgs false
set_option maxRecDepth 100000
structure Sx (w0 X:World) (g:Nat) (cs:Array Value) (t:TypeId):Prop where
 b:Below w0.heap.size w0 X
 k:Blk X g cs t
theorem Sx.below {w0 X X':World} {g:Nat} {cs:Array Value} {t:TypeId} (h:Sx w0 X g cs t) (hb:Below X.heap.size X X'):Sx w0 X' g cs t:=⟨h.b.trans (hb.mono h.b.size),h.k.below hb⟩
theorem Sx.drew {w0 X:World} {g:Nat} {cs:Array Value} {t:TypeId} (h:Sx w0 X g cs t):Sx w0 X.drew g cs t:=h.below (Below.refl _ _).drew
theorem lkL_ne {ps:List PMod} {s w k d:Int} (h:lkc ps s w k d≠0):lkL ps s w k d=L0:=by unfold lkL;rw [if_neg h]
theorem lkL_eq {ps:List PMod} {s w k d:Int} (h:lkc ps s w k d=0):lkL ps s w k d=lay ps s w k:=by unfold lkL;rw [if_pos h]
set_option maxHeartbeats 16000000 in
theorem fnLinked_walk (a:Option Addr) (n c:Nat) (zs:List Int) (w:World) (h:BS w a n c zs):
 Calls Tryz.prog 3 #[.slice a n c] w fun e w'=>e=.returned (.bool true)∧Below w.heap.size w w':=by
 by_cases hbig:1048576<n
 ·have hbig':(1048576:Int)<(n:Int):=by omega
  go_enter Tryz.func3,Tryz.ntmps3
  go_wp2
  go_ret
  exact ⟨rfl,Below.refl _ _⟩
 have hsm:¬ (1048576:Int)<(n:Int):=by omega
 have HD:=hide (DrawLink_any zs h.2.2.1 w a n c h)
 clear h
 go_enter Tryz.func3,Tryz.ntmps3
 go_wp2_with fail
 refine HD.out.mono ?_
 rintro e w1 ⟨v,L,x1,x2,x3,x4,hx,rfl,o,mm,hl,b1⟩
 obtain ⟨ma,mcap,rfl,M1⟩:=dk_msd o mm hl
 generalize L.map mdOf=ms at *
 generalize L.length=m at *
 clear o mm HD
 have al:=al_below w1 (.cells #[.int .i64 x1,.int .i64 x2,.int .i64 x3,.int .i64 x4] 25)
 have k1:=Blk.new w1 #[.int .i64 x1,.int .i64 x2,.int .i64 x3,.int .i64 x4] 25
 have M2:=M1.below al
 have B2:=b1.trans (al.mono b1.size)
 obtain ⟨⟨c0,c1,c2,c3⟩,_⟩:=k1.cfr
 have CS:=hide (sLink_any ma m mcap ms x1 x2 x3 x4 _ M2)
 have HK:=hide (And.intro k1 (And.intro M2 B2))
 have hg1:w1.heap.size<(w1.alloc (.cells #[.int .i64 x1,.int .i64 x2,.int .i64 x3,.int .i64 x4] 25)).heap.size:=by simp
 clear al k1 M1 M2 B2 b1
 go_wp2_with fail
 refine CS.out.mono ?_
 rintro e w2 ⟨b2,a0,d0,xs,a2,d2,a5,d5,ts,rfl,O2⟩
 obtain ⟨k1,M1,B1⟩:=HK.out
 have HPS:=hide (show (pmS ms).length=m by rw [pmS_len];exact M1.s.1)
 have HLB:=hide (layB_lk (pmS ms) x1 x2 x3 x4)
 have HLV:=hide (lkL_v (pmS ms) x1 x2 x3 x4)
 have HNE:=hide (fun h:lkc (pmS ms) x1 x2 x3 x4≠0=>lkL_ne h)
 have HEQ:=hide (fun h:lkc (pmS ms) x1 x2 x3 x4=0=>lkL_eq h)
 have HLK:=hide (fun h:lkc (pmS ms) x1 x2 x3 x4=0=>lok_lk h)
 have HCA:=hide (fun h:lkc (pmS ms) x1 x2 x3 x4=0=>lkc_all.1 h)
 have CI0:=hide (fun (W:World) (hW:MSD W ma m mcap ms)=>iLink_any ma m mcap ms x1 x2 x3 x4 W hW)
 unfold LkM at CI0
 generalize hLY:lkL (pmS ms) x1 x2 x3 x4=LY at *
 generalize hcd:lkc (pmS ms) x1 x2 x3 x4=cd at *
 clear hLY hcd
 have al:=al_below w2 (.cells #[.slice a0 xs.length d0,.int .i64 LY.stack,.slice a2 LY.slots.length d2,.int .i64 LY.flash,.int .i64 LY.ram,.slice a5 ts.length d5] 32)
 have M3:=(M1.below b2).below al
 have k3:=(k1.below b2).below al
 have B3:=(B1.trans (b2.mono B1.size)).trans (al.mono (B1.trans (b2.mono B1.size)).size)
 have l3:=Blk.new w2 #[.slice a0 xs.length d0,.int .i64 LY.stack,.slice a2 LY.slots.length d2,.int .i64 LY.flash,.int .i64 LY.ram,.slice a5 ts.length d5] 32
 have y3:=(O2.lyt HLB.out.r HLV.out).below al
 obtain ⟨⟨c0',c1',c2',c3'⟩,_⟩:=k3.cfr
 have CI:=hide (CI0.out _ M3)
 have HK3:=hide (And.intro k3 (And.intro M3 (And.intro B3 (And.intro l3 y3))))
 have hg2:w2.heap.size<(w2.alloc (.cells #[.slice a0 xs.length d0,.int .i64 LY.stack,.slice a2 LY.slots.length d2,.int .i64 LY.flash,.int .i64 LY.ram,.slice a5 ts.length d5] 32)).heap.size:=by simp
 clear k1 M1 B1 b2 O2 al M3 k3 B3 l3 y3 HK CS CI0 c0 c1 c2 c3
 unfold layV
 go_wp2_with fail
 refine CI.out.mono ?_
 rintro e w4 ⟨b4,p0,q0,ys,p2,q2,p5,q5,us,rfl,O4⟩
 obtain ⟨k3,M3,B3,l3,y3⟩:=HK3.out
 have al:=al_below w4 (.cells #[.slice p0 ys.length q0,.int .i64 LY.stack,.slice p2 LY.slots.length q2,.int .i64 LY.flash,.int .i64 LY.ram,.slice p5 us.length q5] 32)
 have M5:=(M3.below b4).below al
 have k5:=(k3.below b4).below al
 have B5:=(B3.trans (b4.mono B3.size)).trans (al.mono (B3.trans (b4.mono B3.size)).size)
 have l5:=(l3.below b4).below al
 have y5:=(y3.below b4).below al
 have L5:=Blk.new w4 #[.slice p0 ys.length q0,.int .i64 LY.stack,.slice p2 LY.slots.length q2,.int .i64 LY.flash,.int .i64 LY.ram,.slice p5 us.length q5] 32
 have Y5:=(O4.lyt HLB.out.r HLV.out).below al
 have HYL:=hide (show ys.length=LY.places.length by rw [← Y5.ps,List.length_map])
 obtain ⟨⟨t0,t1,t2,t3⟩,_⟩:=k5.cfr
 have HK5:=hide (And.intro k5 (And.intro M5 (And.intro B5 (And.intro l5 (And.intro y5 (And.intro L5 Y5))))))
 have hg4:w4.heap.size<(w4.alloc (.cells #[.slice p0 ys.length q0,.int .i64 LY.stack,.slice p2 LY.slots.length q2,.int .i64 LY.flash,.int .i64 LY.ram,.slice p5 us.length q5] 32)).heap.size:=by simp
 clear k3 M3 B3 b4 O4 al M5 k5 B5 l3 y3 l5 y5 L5 Y5 HK3 CI c0' c1' c2' c3'
 unfold layV
 go_wp2_with fail
 generalize hW5:w4.alloc (.cells #[.slice p0 ys.length q0,.int .i64 LY.stack,.slice p2 LY.slots.length q2,.int .i64 LY.flash,.int .i64 LY.ram,.slice p5 us.length q5] 32)=W5 at *
 clear hW5
 go_region_held3 (fun w'=>w'.cell? ⟨w1.heap.size,0,none⟩=some (.int .i64 x1)∧w'.cell? ⟨w1.heap.size,1,none⟩=some (.int .i64 x2)∧w'.cell? ⟨w1.heap.size,2,none⟩=some (.int .i64 x3)∧w'.cell? ⟨w1.heap.size,3,none⟩=some (.int .i64 x4)) (go_keep)
  (first
    | (go_at_call 10
       refine (iConfigOk_any x1 x2 x3 x4 _).mono ?_
       rintro e w6 ⟨rfl,b6⟩
       have HB6:=hide b6
       have cc0:=cell_below b6 t0
       have cc1:=cell_below b6 t1
       have cc2:=cell_below b6 t2
       have cc3:=cell_below b6 t3
       clear b6)
    | (go_at_call 11
       refine (sConfigOk_any x1 x2 x3 x4 _).mono ?_
       rintro e w7 ⟨rfl,b7⟩
       have HB7:=hide b7
       have r0:=cell_below b7 cc0
       have r1:=cell_below b7 cc1
       have r2:=cell_below b7 cc2
       have r3:=cell_below b7 cc3
       clear b7))
 have BZ:Below W5.heap.size W5 w7:=((Below.refl _ W5).drew.trans HB6.out).trans (HB7.out.mono HB6.out.size)
 obtain ⟨k5,M5,B5,l5,y5,L5,Y5⟩:=HK5.out
 have hz7:=BZ.size
 have HK7:=hide (And.intro (k5.below BZ) (And.intro (M5.below BZ) (And.intro (B5.trans (BZ.mono B5.size)) (And.intro (l5.below BZ) (And.intro (y5.below BZ) (And.intro (L5.below BZ) (Y5.below BZ)))))))
 obtain ⟨u0,u1,u2,u3,u4,u5⟩:=(L5.below BZ).lyt
 obtain ⟨v0,v1,v2,v3,v4,v5⟩:=(l5.below BZ).lyt
 clear k5 M5 B5 l5 y5 L5 Y5 BZ HB6 HB7 HK5 cc0 cc1 cc2 cc3 r0 r1 r2 r3 t0 t1 t2 t3
 by_cases h0:cd=0
 rotate_left
 ·have HB:=hide HK7.out.2.2.1
  have hl0:ys.length=0:=by rw [HYL.out,HNE.out h0];rfl
  clear HK7 HYL HNE HEQ HLK HCA HLB HLV
  go_wp2
  go_ret
  exact ⟨by first | rfl | simp [hl0],HB.out⟩
 subst h0
 have HLO:=hide (show Lok (pmS ms) LY by rw [HEQ.out rfl];exact HLK.out rfl)
 have HLE:=hide (HEQ.out rfl)
 have HAL:=hide (HCA.out rfl)
 clear HNE HEQ HLK HCA
 have HC7:=hide (SameLayout_any LY p0 q0 ys p2 q2 p5 q5 us LY a0 d0 xs a2 d2 a5 d5 ts w7 HK7.out.2.2.2.2.2.2 HK7.out.2.2.2.2.1)
 rw [decide_eq_true rfl] at HC7
 go_wp2_with fail
 refine HC7.out.mono ?_
 rintro e w8 ⟨rfl,b8⟩
 obtain ⟨k5,M5,B5,l5,y5,L5,Y5⟩:=HK7.out
 have hz8:=b8.size
 have HK8:=hide (And.intro (k5.below b8) (And.intro (M5.below b8) (And.intro (B5.trans (b8.mono B5.size)) (And.intro (l5.below b8) (And.intro (y5.below b8) (And.intro (L5.below b8) (Y5.below b8)))))))
 have CM:=hide (iImage_any ma m mcap ms LY p0 q0 ys p2 q2 p5 q5 us w8 (M5.below b8) (Y5.below b8))
 clear u0 u1 u2 u3 u4 u5 v0 v1 v2 v3 v4 v5
 obtain ⟨u0,u1,u2,u3,u4,u5⟩:=(L5.below b8).lyt
 clear k5 M5 B5 l5 y5 L5 Y5 HK7 HC7 b8
 have hdk:decide (Lok (pmS ms) LY)=true:=decide_eq_true HLO.out
 unfold ImM at CM
 rw [hdk] at CM
 go_wp2_with fail
 refine CM.out.mono ?_
 rintro e w9 ⟨b9,i1,n1,e1,i2,n2,e2,i3,n3,e3,rfl,OM9⟩
 obtain ⟨k5,M5,B5,l5,y5,L5,Y5⟩:=HK8.out
 have al:=al_below w9 (.cells #[.slice i1 n1 e1,.slice i2 n2 e2,.slice i3 n3 e3] 38)
 have b10:Below w8.heap.size w8 _:=b9.trans (al.mono b9.size)
 have K10:=Blk.new w9 #[.slice i1 n1 e1,.slice i2 n2 e2,.slice i3 n3 e3] 38
 have BF:=OM9.o1.bs.below al
 have BR:=OM9.o2.bs.below al
 have BO:=OM9.o3.bs.below al
 have hz9:=b9.size
 have hg9:w9.heap.size<(w9.alloc (.cells #[.slice i1 n1 e1,.slice i2 n2 e2,.slice i3 n3 e3] 38)).heap.size:=by simp
 have HK10:=hide (And.intro (k5.below b10) (And.intro (M5.below b10) (And.intro (B5.trans (b10.mono B5.size)) (And.intro (L5.below b10) (And.intro (Y5.below b10) (And.intro K10 (And.intro BF (And.intro BR BO))))))))
 have CN:=hide (sImage_any ma m mcap ms LY a0 d0 xs a2 d2 a5 d5 ts _ (M5.below b10) (y5.below b10))
 unfold ImM at CN
 rw [hdk] at CN
 clear u0 u1 u2 u3 u4 u5
 obtain ⟨v0,v1,v2,v3,v4,v5⟩:=(l5.below b10).lyt
 clear k5 M5 B5 l5 y5 L5 Y5 HK8 CM b9 b10 al K10 BF BR BO OM9
 go_wp2_with fail
 refine CN.out.mono ?_
 rintro e w11 ⟨b11,j1,m1,f1,j2,m2,f2,j3,m3,f3,rfl,OM11⟩
 obtain ⟨k5,M5,B5,L5,Y5,K10,BF,BR,BO⟩:=HK10.out
 obtain rfl:m1=n1:=by have h1:=OM11.o1.bs.1;have h2:=BF.1;omega
 obtain rfl:m2=n2:=by have h1:=OM11.o2.bs.1;have h2:=BR.1;omega
 obtain rfl:m3=n3:=by have h1:=OM11.o3.bs.1;have h2:=BO.1;omega
 have al:=al_below w11 (.cells #[.slice j1 m1 f1,.slice j2 m2 f2,.slice j3 m3 f3] 38)
 have b12:Below (w9.alloc (.cells #[.slice i1 m1 e1,.slice i2 m2 e2,.slice i3 m3 e3] 38)).heap.size (w9.alloc (.cells #[.slice i1 m1 e1,.slice i2 m2 e2,.slice i3 m3 e3] 38)) _:=b11.trans (al.mono b11.size)
 have K12:=Blk.new w11 #[.slice j1 m1 f1,.slice j2 m2 f2,.slice j3 m3 f3] 38
 have hz11:=b11.size
 have HSM:=hide (sameMem_same i1 i2 i3 j1 j2 j3 m1 e1 m2 e2 m3 e3 f1 f2 f3 _ _ _ _ (BF.below b12) (BR.below b12) (BO.below b12) (OM11.o1.bs.below al) (OM11.o2.bs.below al) (OM11.o3.bs.below al))
 have HKN:=hide (lok_kn HLO.out)
 have hfl:(m1:Int)=LY.flash:=by
  have h1:=BF.1
  unfold imF at h1
  rw [if_pos HLO.out,flB_len] at h1
  have:=HKN.out.fr.1
  omega
 have hrl:(m2:Int)=LY.ram:=by
  have h1:=BR.1
  unfold imR at h1
  rw [if_pos HLO.out,raB_len HKN.out _ (Nat.le_refl _)] at h1
  have:=HKN.out.rr.1
  omega
 have hol:m3=0:=by have h1:=BO.1;simpa using h1.symm
 have hmok:mok m1 m2 m3=true:=by
  have h1:=HKN.out.fr.2
  have h2:=HKN.out.rr.2
  unfold mok
  rw [decide_eq_true_eq]
  omega
 have HMK:=hide (And.intro hmok (And.intro hfl hrl))
 have BF':BS (w11.alloc (.cells #[.slice j1 m1 f1,.slice j2 m2 f2,.slice j3 m3 f3] 38)) i1 m1 e1 (flB (pmS ms) LY (pmS ms).length):=by have:=BF.below b12;unfold imF at this;rw [if_pos HLO.out] at this;exact this
 have HK12:=hide (And.intro (k5.below b12) (And.intro (M5.below b12) (And.intro (B5.trans (b12.mono B5.size)) (And.intro (L5.below b12) (And.intro (Y5.below b12) (And.intro (K10.below b12) (And.intro BF' (BR.below b12))))))))
 clear v0 v1 v2 v3 v4 v5
 obtain ⟨u0,u1,u2,u3,u4,u5⟩:=(L5.below b12).lyt
 obtain ⟨s1,s2,s3,_⟩:=(K10.below b12).three
 obtain ⟨o1,o2,o3,_⟩:=K12.three
 clear k5 M5 B5 L5 Y5 K10 BF BR BO HK10 CN OM11 b11 b12 al K12 BF' hmok hol hfl hrl
 have hfl':((m1:Int) != LY.flash)=false:=by simp [HMK.out.2.1]
 have hrl':((m2:Int) != LY.ram)=false:=by simp [HMK.out.2.2]
 go_wp2_with fail
 refine HSM.out.mono ?_
 rintro e w13 ⟨rfl,b13⟩
 obtain ⟨k5,M5,B5,L5,Y5,K10,BF,BR⟩:=HK12.out
 have hz13:=b13.size
 have hm1:1≤m∧m≤4:=by have h1:=HKN.out.n;rw [HPS.out] at h1;exact h1
 obtain ⟨mb,mo,rfl,hAt⟩:=(M5.below b13).s.2.2.1 (by omega)
 have hyl:ys.length=m:=by rw [HYL.out,HKN.out.pl];simp [HPS.out]
 obtain ⟨pb,po,rfl,hPl⟩:=(Y5.below b13).p.2.2.1 (by omega)
 have HAT:=hide hAt
 have HPL:=hide hPl
 have HYS:=hide hyl
 have HM:=hide (M5.below b13)
 have HY:=hide (Y5.below b13)
 have HKL:=hide (L5.below b13)
 have HKI:=hide (K10.below b13)
 have HKC:=hide (k5.below b13)
 have HBB:=hide (B5.trans (b13.mono B5.size))
 have HFR:=hide (And.intro (BF.below b13) (BR.below b13))
 have hbm:Below w13.heap.size w13 w13:=Below.refl _ _
 clear k5 M5 B5 L5 Y5 K10 BF BR HK12 HSM b13 hAt hPl hyl u0 u1 u2 u3 u4 u5 s1 s2 s3 o1 o2 o3
 have HB0:=hide hbm
 clear hbm
 obtain ⟨u0,u1,u2,u3,u4,u5⟩:=HKL.out.lyt
 obtain ⟨s1,s2,s3,_⟩:=HKI.out.three
 have hmI:(m:Int)≤4:=by omega
 go_wp2
 clear u0 u1 u2 u3 u4 u5 s1 s2 s3
 go_loopw [13,14,15] (fun f r i wr=>∃ (j:Nat) (fv:Int),j≤m∧i=.int .i64 j∧f=.int .i64 fv∧(0≤fv∧fv≤Fl (pmS ms) j)∧r=.int .i64 (65536+Ra (pmS ms) j)∧Below w13.heap.size w13 wr) (fun _ _ i _=>m - (intOf i).toNat)
 case atStart=>exact ⟨0,0,Nat.zero_le _,rfl,rfl,by simp [Fl],by simp [Ra],HB0.out⟩
 case round=>
  obtain ⟨j,fv,hj,rfl,rfl,hfv,rfl,hb⟩:=hrel
  generalize wr=wo at *
  clear HB0
  by_cases hlt:j<m
  ·have hlt':(j:Int)<(m:Int):=by omega
   have hjp:j<(pmS ms).length:=by rw [HPS.out];exact hlt
   have hjy:(j:Int)<(ys.length:Int):=by rw [HYS.out];omega
   obtain ⟨z0,z1,z2,z3⟩:=HPL.out j (by rw [HYS.out];exact hlt)
   have HPB:=hide (HY.out.p.2.2.2.1 j (by rw [HYS.out];exact hlt))
   have HMD:=hide (HM.out.d j hlt)
   have HPM:=hide (show (pmS ms).getD j zP=(ms.getD j zMd).pm from pmS_at (by have:=HM.out.s.1;omega))
   have HPP:=hide (show (ys.getD j zPB).1=plc (pmS ms) j from by
    rw [← HKN.out.place j hjp,← HY.out.ps,map_getD _ _ _ zPB _ (by rw [HYS.out];exact hlt)])
   obtain ⟨y0,y1,y2,y3,y4,y5,y6,y7⟩:=HAT.out j hlt
   obtain ⟨g1,g2,g3,g4,g5,g6⟩:=HKN.out.ends j hjp
   have g7:=Fl_mono HKN.out.v (j+1) (pmS ms).length (by omega) (Nat.le_refl _)
   have g8:=HKN.out.fl
   have g9:=HKN.out.fr.2
   have ga:=Ra_range HKN.out.v j (by omega)
   have gb:=dsz_range (HKN.out.v j hjp)
   have gt:=tsz_range (HKN.out.v j hjp)
   have HFS:=hide (fun q hq=>fsum_range (HKN.out.v j hjp) q hq)
   have gc:Ra (pmS ms) (j+1)=Ra (pmS ms) j+dsz ((pmS ms).getD j zP):=rfl
   have HTX:=hide (fun i hi=>HKN.out.rdT (R:=imR (pmS ms) LY) HMK.out.1 HMK.out.2.1 j hjp i hi)
   have HTB:=hide (fun q hq i hi=>HKN.out.rdB (R:=imR (pmS ms) LY) HMK.out.1 HMK.out.2.1 j hjp q hq i hi)
   have HPC:=hide (fun q hq=>plc_bank (pmS ms) j q hq)
   have HBN:=hide (show (plc (pmS ms) j).banks.length=((pmS ms).getD j zP).bl.length by simp [plc])
   have HVE:=hide (vld_en (HKN.out.v j hjp))
   rw [HPM.out] at HTX HTB HPC HBN HVE g2 g3 g4 g5 g6 gb gc gt HFS
   rw [← HPP.out] at HPC HBN
   have ht:(ys.getD j zPB).1.text=Fl (pmS ms) j:=by rw [HPP.out];rfl
   have hd:(ys.getD j zPB).1.data=65536+Ra (pmS ms) j:=by rw [HPP.out];rfl
   have hs:(ys.getD j zPB).1.size=dsz (ms.getD j zMd).pm:=by rw [HPP.out,← HPM.out];rfl
   rw [ht] at z0
   rw [hd] at z2
   rw [hs] at z3
   unfold svP at z1
   clear HPP HPM ht hd hs
   generalize ys.getD j zPB=x at *
   obtain ⟨⟨xt,xb,xd,xz⟩,xa,xc⟩:=x
   generalize ms.getD j zMd=M at *
   have HPE:=hide (show M.pm.tz=M.tz∧M.pm.bl=M.bl.map (fun B=>B.2.2.2) from ⟨rfl,rfl⟩)
   obtain ⟨P,hP⟩:∃ P,P=M.pm:=⟨_,rfl⟩
   rw [← hP] at HTX HTB HPC HBN HVE g2 g3 g4 g5 g6 gb gc gt HFS z3 HPE
   clear hP
   obtain ⟨nm,ta,tn,tc,tz,ba,bn,bc,bl,da,dn,dc,dz,bss,ra,rn,rc,rrz,ia,im,ic,ss,ea,en,ec,es⟩:=M
   dsimp only at z0 z1 z2 z3 HPB HPC HBN HMD HPE y0 y1 y2 y3 y4 y5 y6 y7
   have htl:P.tz.length=tn:=by rw [HPE.out.1];exact HMD.out.t.1
   have hbl:bl.length=bn:=HMD.out.b.1
   have hPl:P.bl.length=bn:=by rw [HPE.out.2,List.length_map];exact hbl
   have hbn4:bn≤4:=by have h1:=HVE.out.2.2.2.1;omega
   have htn:tn≤200:=by have h1:=HVE.out.2.2.1;omega
   have hxb:xb.length=bn:=by rw [HBN.out];exact hPl
   have HBE:=hide (show ∀ q,q<bn→P.bl.getD q []=(bl.getD q zB).2.2.2 from fun q hq=>by rw [HPE.out.2,getD_map _ _ _ zB _ (by omega)])
   have hc1:¬ Fl (pmS ms) j<fv:=by omega
   have HLW:=hide (fun (X:World) (hX:Sx w13 X wo.heap.size #[.int .i64 (Fl (pmS ms) j),.slice xa xb.length xc,.int .i64 (65536+Ra (pmS ms) j),.int .i64 (dsz P)] 43)=>(lwWords_any i1 i2 i3 m1 e1 m2 e2 m3 e3 (flB (pmS ms) LY (pmS ms).length) (imR (pmS ms) LY) [] (Fl (pmS ms) j) ta tn tc tz X (HFR.out.1.below hX.b) (HFR.out.2.below hX.b) (HMD.out.t.below hX.b) (by omega) (by omega) (fun i hi=>by have:=HTX.out i (by omega);rw [HPE.out.1] at this;exact this)).mono (fun e w' he=>And.intro he.1 (hX.below he.2)))
   have HS0:=hide (show Sx w13 (wo.alloc (.cells #[.int .i64 (Fl (pmS ms) j),.slice xa xb.length xc,.int .i64 (65536+Ra (pmS ms) j),.int .i64 (dsz P)] 43)) wo.heap.size #[.int .i64 (Fl (pmS ms) j),.slice xa xb.length xc,.int .i64 (65536+Ra (pmS ms) j),.int .i64 (dsz P)] 43 from ⟨hb.trans ((al_below wo _).mono hb.size),Blk.new wo #[.int .i64 (Fl (pmS ms) j),.slice xa xb.length xc,.int .i64 (65536+Ra (pmS ms) j),.int .i64 (dsz P)] 43⟩)
   obtain ⟨u0,u1,u2,u3,u4,u5⟩:=(HKL.out.below hb).lyt
   have zz0:=cell_below hb z0
   have zz1:=cell_below hb z1
   have zz2:=cell_below hb z2
   have zz3:=cell_below hb z3
   have HGS:=hide (And.intro g3 (And.intro g4 gc))
   have hG:0≤dsz P∧dsz P≤100000:=by omega
   have hT:0≤tsz P∧tsz P≤1000∧Fl (pmS ms) j+4 * (tn:Int)≤Fl (pmS ms) j+tsz P:=by omega
   have hF:0≤Fl (pmS ms) j∧Fl (pmS ms) j≤16384:=by omega
   have hR:0≤Ra (pmS ms) j∧Ra (pmS ms) j≤100000:=by omega
   have HXB:=hide (And.intro hxb (And.intro htl (And.intro hbl hPl)))
   clear g2 g3 g4 g5 g6 g7 g8 g9 ga gb gc gt hb htl hbl hPl hxb
   go_wp2_with fail
   clear u0 u1 u2 u3 u4 u5 zz0 zz1 zz2 zz3
   generalize hY:wo.alloc (.cells #[.int .i64 (Fl (pmS ms) j),.slice xa xb.length xc,.int .i64 (65536+Ra (pmS ms) j),.int .i64 (dsz P)] 43)=Y1 at *
   clear hY
   have v0:Y1.cell? ⟨wo.heap.size,0,none⟩=some (.int .i64 (Fl (pmS ms) j)):=HS0.out.k.cell 0
   have v2:Y1.cell? ⟨wo.heap.size,2,none⟩=some (.int .i64 (65536+Ra (pmS ms) j)):=HS0.out.k.cell 2
   obtain ⟨s1,s2,s3,_⟩:=(HKI.out.below HS0.out.b).three
   have v4:=cell_below HS0.out.b y1
   have hc1b:decide (Fl (pmS ms) j<fv)=false:=decide_eq_false (by omega)
   have hc1c:(Fl (pmS ms) j<fv)=False:=eq_false (by omega)
   go_region_held3 (fun w'=>w'.cell? ⟨wo.heap.size,0,none⟩=some (.int .i64 (Fl (pmS ms) j))∧w'.cell? ⟨wo.heap.size,2,none⟩=some (.int .i64 (65536+Ra (pmS ms) j))∧w'.cell? ⟨w9.heap.size,0,none⟩=some (.slice i1 m1 e1)∧w'.cell? ⟨w9.heap.size,1,none⟩=some (.slice i2 m2 e2)∧w'.cell? ⟨w9.heap.size,2,none⟩=some (.slice i3 m3 e3)∧w'.cell? ⟨mb,mo+j * 8+1,none⟩=some (.slice ta tn tc)) (go_keep)
    (first
      | (go_at_call 16;first
          | with_reducible refine (HLW.out _ HS0.out).mono ?_
          | with_reducible refine (HLW.out _ HS0.out.drew).mono ?_
         rintro e Y2 ⟨rfl,hS2⟩
         have HS2:=hide hS2
         have r0:Y2.cell? ⟨wo.heap.size,0,none⟩=some (.int .i64 (Fl (pmS ms) j)):=hS2.k.cell 0
         have r2:Y2.cell? ⟨wo.heap.size,2,none⟩=some (.int .i64 (65536+Ra (pmS ms) j)):=hS2.k.cell 2
         have r3:Y2.cell? ⟨wo.heap.size,3,none⟩=some (.int .i64 (dsz P)):=hS2.k.cell 3
         obtain ⟨t1,t2,t3,_⟩:=(HKI.out.below hS2.b).three
         have r4:=cell_below hS2.b y1
         clear hS2))
   clear v0 v2 v4 s1 s2 s3
   go_wp2_with fail
   go_region_held3 (fun w'=>w'.cell? ⟨wo.heap.size,0,none⟩=some (.int .i64 (Fl (pmS ms) j))∧w'.cell? ⟨mb,mo+j * 8+1,none⟩=some (.slice ta tn tc)) (go_keep) (fail)
   go_wp2
   clear r0 r2 r3 r4 t1 t2 t3 hc1b hc1c
   go_loopw [13,17] (fun f i wr=>∃ (q:Nat) (fq:Int),q≤bn∧i=.int .i64 q∧f=.int .i64 fq∧(0≤fq∧fq≤Fl (pmS ms) j+tsz P+fsum P q)∧Sx w13 wr wo.heap.size #[.int .i64 (Fl (pmS ms) j),.slice xa xb.length xc,.int .i64 (65536+Ra (pmS ms) j),.int .i64 (dsz P)] 43) (fun _ i _=>bn - (intOf i).toNat)
   case atStart=>exact ⟨0,Fl (pmS ms) j+4 * (tn:Int),Nat.zero_le _,rfl,by rw [wr62 (4 * (tn:Int)) (by omega) (by omega),wr62 _ (by omega) (by omega)],by simp only [fsum];omega,by first | exact HS2.out | exact HS2.out.drew⟩
   case round=>
    obtain ⟨q,fq,hq,rfl,rfl,hfq,hS⟩:=hrel
    generalize wr=wi at *
    clear HS2 HS0 HLW
    by_cases hql:q<bn
    ·have hql':(q:Int)<(bn:Int):=by omega
     have hqx':(q:Int)<(xb.length:Int):=by have:=HXB.out.1;omega
     obtain ⟨bb,bo,rfl,hbc⟩:=HMD.out.b.2.2.1 (show bn≠0 by omega)
     obtain ⟨qb,qo,rfl,hqc⟩:=HPB.out.2.2.2.1 (show xb.length≠0 by have:=HXB.out.1;omega)
     have w0:=hqc q (by have:=HXB.out.1;omega)
     have wb:=hbc q hql
     have HIB:=hide (HMD.out.b.2.2.2.1 q hql)
     rw [HPC.out q (by have:=HXB.out.2.2.2;omega)] at w0
     have HTQ:=hide (fun i hi=>HTB.out q (by have:=HXB.out.2.2.2;omega) i hi)
     have hg3:=HGS.out.1 q (by have:=HXB.out.2.2.2;omega)
     have hfs:=HFS.out q (by have:=HXB.out.2.2.2;omega)
     have hfs2:=HFS.out (q+1) (by have:=HXB.out.2.2.2;omega)
     rw [HBE.out q hql] at HTQ hg3
     generalize bl.getD q zB=B at *
     obtain ⟨A,bm,bcap,bz⟩:=B
     dsimp only at wb HIB HTQ hg3
     have hbz:bz.length=bm:=HIB.out.1
     have hfs1:fsum P q+4 * (bm:Int)≤fsum P (q+1):=by omega
     have hbm:bm≤1000:=by omega
     generalize hbk:Fl (pmS ms) j+tsz P+fsum P q=bk at *
     have hbk0:0≤bk∧bk≤100000:=by omega
     have HBK:=hide hbk
     have HLQ:=hide (fun (X:World) (hX:Sx w13 X wo.heap.size #[.int .i64 (Fl (pmS ms) j),.slice (some ⟨qb,qo,none⟩) xb.length xc,.int .i64 (65536+Ra (pmS ms) j),.int .i64 (dsz P)] 43)=>(lwWords_any i1 i2 i3 m1 e1 m2 e2 m3 e3 (flB (pmS ms) LY (pmS ms).length) (imR (pmS ms) LY) [] bk A bm bcap bz X (HFR.out.1.below hX.b) (HFR.out.2.below hX.b) (HIB.out.below hX.b) hbk0 hbm (fun i hi=>HTQ.out i (by omega))).mono (fun e w' he=>And.intro he.1 (hX.below he.2)))
     have HSI:=hide hS
     have yy2:=cell_below hS.b y2
     have v1:wi.cell? ⟨wo.heap.size,1,none⟩=some (.slice (some ⟨qb,qo,none⟩) xb.length xc):=hS.k.cell 1
     have v2:=cell_below hS.b w0
     have v3:=cell_below hS.b wb
     obtain ⟨s1,s2,s3,_⟩:=(HKI.out.below hS.b).three
     have hc2b:decide (bk<fq)=false:=decide_eq_false (by omega)
     have hc2c:(bk<fq)=False:=eq_false (by omega)
     clear hS hbz hbk hfs hfs2 hg3
     go_wp2_with fail
     go_region_held3 (fun w'=>w'.cell? ⟨wo.heap.size,1,none⟩=some (.slice (some ⟨qb,qo,none⟩) xb.length xc)∧w'.cell? ⟨qb,qo+q,none⟩=some (.int .i64 bk)∧w'.cell? ⟨w9.heap.size,0,none⟩=some (.slice i1 m1 e1)∧w'.cell? ⟨w9.heap.size,1,none⟩=some (.slice i2 m2 e2)∧w'.cell? ⟨w9.heap.size,2,none⟩=some (.slice i3 m3 e3)∧w'.cell? ⟨mb,mo+j * 8+2,none⟩=some (.slice (some ⟨bb,bo,none⟩) bn bc)∧w'.cell? ⟨bb,bo+q,none⟩=some (.slice A bm bcap)) (go_keep)
      (first
        | (go_at_call 16;first
            | with_reducible refine (HLQ.out _ HSI.out).mono ?_
            | with_reducible refine (HLQ.out _ HSI.out.drew).mono ?_
           rintro e Y4 ⟨rfl,hS4⟩
           have HS4:=hide hS4
           have r1:Y4.cell? ⟨wo.heap.size,1,none⟩=some (.slice (some ⟨qb,qo,none⟩) xb.length xc):=hS4.k.cell 1
           have r2:=cell_below hS4.b w0
           have r3:=cell_below hS4.b wb
           have r4:=cell_below hS4.b y2
           obtain ⟨t1,t2,t3,_⟩:=(HKI.out.below hS4.b).three
           clear hS4))
     clear v1 v2 v3 s1 s2 s3 yy2
     go_wp2_with fail
     go_region_held3 (fun w'=>w'.cell? ⟨wo.heap.size,1,none⟩=some (.slice (some ⟨qb,qo,none⟩) xb.length xc)∧w'.cell? ⟨qb,qo+q,none⟩=some (.int .i64 bk)∧w'.cell? ⟨mb,mo+j * 8+2,none⟩=some (.slice (some ⟨bb,bo,none⟩) bn bc)∧w'.cell? ⟨bb,bo+q,none⟩=some (.slice A bm bcap)) (go_keep) (fail)
     go_wp2
     go_roundw
     case rel=>exact ⟨q+1,bk+4 * (bm:Int),by omega,by go_num,by rw [wr62 (4 * (bm:Int)) (by omega) (by omega),wr62 _ (by omega) (by omega)],by have:=HBK.out;omega,by first | exact HS4.out | exact HS4.out.drew⟩
     case measure=>simp [intOf];omega
    ·have hql':¬ (q:Int)<(bn:Int):=by omega
     have eq:q=bn:=by omega
     have HSE:=hide hS.b
     have yy2:=cell_below hS.b y2
     have HRA:=hide (show 65536+Ra (pmS ms) j+dsz P=65536+Ra (pmS ms) (j+1) by have:=HGS.out.2.2;omega)
     have HFQ:=hide (show fq≤Fl (pmS ms) (j+1) by have h1:=HGS.out.2.1;rw [HXB.out.2.2.2] at h1;rw [eq] at hfq;omega)
     clear hS eq
     go_wp2
     go_roundw
     case rel=>exact ⟨j+1,_,by omega,by go_num,rfl,⟨hfq.1,HFQ.out⟩,by rw [← HRA.out],HSE.out⟩
     case measure=>simp [intOf];omega
  ·have hlt':¬ (j:Int)<(m:Int):=by omega
   have ej:j=m:=by omega
   have HBE:=hide (HBB.out.trans (hb.mono HBB.out.size))
   obtain ⟨u0,u1,u2,u3,u4,u5⟩:=(HKL.out.below hb).lyt
   obtain ⟨⟨t0,t1,t2,t3⟩,_⟩:=(HKC.out.below hb).cfr
   have hst:=HKN.out.st
   have hfl:=HKN.out.fl
   rw [HPS.out,← ej] at hst hfl
   have hfv':fv≤LY.flash:=by rw [hfl];exact hfv.2
   have hram:LY.stack+x3≤65536+LY.ram:=by
    have e1:=HLE.out
    have e2:LY.ram=Ra (pmS ms) (pmS ms).length+x3+((x1.toNat:Nat):Int) * rnd (4 * x2):=by rw [e1];rfl
    have hc:=HAL.out.1
    unfold cfo at hc
    simp at hc
    have a3:(0:Int)≤((x1.toNat:Nat):Int) * rnd (4 * x2):=Int.mul_nonneg (by omega) (by have:=rnd_range (x:=4 * x2) (by omega);omega)
    have e3:=HKN.out.st
    omega
   have hR:=HKN.out.rr
   have hRa:=Ra_range HKN.out.v (pmS ms).length (Nat.le_refl _)
   have HST:=hide hst
   have hst2:(65536+Ra (pmS ms) j == LY.stack)=true:=by rw [HST.out];simp
   have hsb:0≤LY.stack∧LY.stack≤100000:=by have e5:=HKN.out.st;have e6:=HPS.out;omega
   have hs2:IntKind.i64.wrap (LY.stack+x3)=LY.stack+x3:=wr62 _ (by omega) (by omega)
   have hs3:IntKind.i64.wrap (65536+LY.ram)=65536+LY.ram:=wr62 _ (by omega) (by omega)
   clear hb hst hfl ej HST HKN HLE HAL
   go_wp2
   go_ret
   exact ⟨by first | rfl | simp [hst2],HBE.out⟩
end Go.Proofs.YtngdgogjlpjjpadGreat
