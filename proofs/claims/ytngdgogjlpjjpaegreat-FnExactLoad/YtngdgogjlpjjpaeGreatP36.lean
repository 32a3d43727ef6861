import Derived.Test.YtngdgogjlpjjpaeGreatP14
import Derived.Test.YtngdgogjlpjjpaeGreatP19
import Derived.Test.YtngdgogjlpjjpaeGreatP29
import Derived.Test.YtngdgogjlpjjpaeGreatP31
import Derived.Test.YtngdgogjlpjjpaeGreatP33
import Derived.Test.YtngdgogjlpjjpaeGreatP34
namespace Go.Proofs.YtngdgogjlpjjpaeGreat
open Go.RowKit Classical
set_option linter.unusedVariables false
set_option linter.unusedSimpArgs false
set_option maxRecDepth 100000
set_option maxHeartbeats 16000000 in
theorem sLoad_any (g n:Nat)(gs:List Nat)(bl:List Bk)(s c k d:Int)(w:World)(H:Img w g n gs bl)(hn:n≤1048576):
 Calls Tryz.prog 18 #[.slice (some ⟨g,0,none⟩) n n,.agg #[.int .i64 s,.int .i64 c,.int .i64 k,.int .i64 d]] w (LdQ False w (zsL bl) n s c k d):=by
 obtain ⟨iM,hiM,hz0,hz1,hz2⟩:=info_parts infoM
 obtain ⟨V0,hV0⟩:∃ V0,V0=((w.alloc (.cells #[.int .i64 s,.int .i64 c,.int .i64 k,.int .i64 d] 44)).alloc (.cells #[.slice none 0 0,.int .i64 0,.int .i64 0,.int .i64 0,.int .i64 0,.int .i64 0,.slice none 0 0,.slice none 0 0,.slice none 0 0,.slice none 0 0,.int .i64 0,.int .i64 0,.slice none 0 0,.slice none 0 0,.int .i64 0] 54)).alloc (.cells #[.slice none 0 0,.int .i64 0,.int .i64 0,.int .i64 0,.int .i64 0,.int .i64 0,.slice none 0 0,.slice none 0 0,.slice none 0 0,.slice none 0 0,.int .i64 0,.int .i64 0,.slice none 0 0,.slice none 0 0,.int .i64 0] 54):=⟨_,rfl⟩
 have bV0:Below w.heap.size w V0:=by rw [hV0];exact (((Below.refl _ _).alloc (Nat.le_refl _) _).alloc (by simp) _).alloc (by simp;omega) _
 have k00:Blk V0 w.heap.size #[.int .i64 s,.int .i64 c,.int .i64 k,.int .i64 d] 44:=by rw [hV0];exact ((Blk.new w _ _).alloc _).alloc _
 have k01:Blk V0 (w.heap.size+1) z15 54:=by rw [hV0];have:=(Blk.new (w.alloc (.cells #[.int .i64 s,.int .i64 c,.int .i64 k,.int .i64 d] 44)) z15 54).alloc (.cells z15 54);simpa [z15] using this
 have k02:Blk V0 (w.heap.size+1+1) z15 54:=by rw [hV0];have:=Blk.new ((w.alloc (.cells #[.int .i64 s,.int .i64 c,.int .i64 k,.int .i64 d] 44)).alloc (.cells z15 54)) z15 54;simpa [z15] using this
 obtain ⟨V,hV⟩:∃ V,V=st15 V0 (w.heap.size+1+1) (.slice none 0 0) (.int .i64 0) (.int .i64 0) (.int .i64 0) (.int .i64 0) (.int .i64 0) (.slice none 0 0) (.slice none 0 0) (.slice none 0 0) (.slice none 0 0) (.int .i64 0) (.int .i64 0) (.slice none 0 0) (.slice none 0 0) (.int .i64 0):=⟨_,rfl⟩
 have T0:=turn_st15 V0 (w.heap.size+1+1) (.slice none 0 0) (.int .i64 0) (.int .i64 0) (.int .i64 0) (.int .i64 0) (.int .i64 0) (.slice none 0 0) (.slice none 0 0) (.slice none 0 0) (.slice none 0 0) (.int .i64 0) (.int .i64 0) (.slice none 0 0) (.slice none 0 0) (.int .i64 0)
 rw [← hV] at T0
 have bV:Below w.heap.size w V:=below_turn bV0 T0 (fun j hj=>by omega) bV0.size
 have k0:=turn_blk T0 k00 (by omega)
 have k1:=turn_blk T0 k01 (by omega)
 have k2:Blk V (w.heap.size+1+1) z15 54:=by rw [hV];exact blk_st15 k02 _ _ _ _ _ _ _ _ _ _ _ _ _ _ _
 have K2:=k02
 unfold z15 at K2
 obtain ⟨c0q,c1q,c2q,c3q,c4q,c5q,c6q,c7q,c8q,c9q,c10q,c11q,c12q,c13q,c14q⟩:=K2.mc
 have f0q:=K2.frozen 0
 have f1q:=K2.frozen 1
 have f2q:=K2.frozen 2
 have f3q:=K2.frozen 3
 have f4q:=K2.frozen 4
 have f5q:=K2.frozen 5
 have f6q:=K2.frozen 6
 have f7q:=K2.frozen 7
 have f8q:=K2.frozen 8
 have f9q:=K2.frozen 9
 have f10q:=K2.frozen 10
 have f11q:=K2.frozen 11
 have f12q:=K2.frozen 12
 have f13q:=K2.frozen 13
 have f14q:=K2.frozen 14
 clear K2
 have CC:=hide (sConfigOk_any s c k d V)
 have H1:=H.below bV
 obtain ⟨u0,u1,u2,u3⟩:=show V.cell? ⟨w.heap.size,0,none⟩=some (.int .i64 s)∧V.cell? ⟨w.heap.size,1,none⟩=some (.int .i64 c)∧V.cell? ⟨w.heap.size,2,none⟩=some (.int .i64 k)∧V.cell? ⟨w.heap.size,3,none⟩=some (.int .i64 d) from ⟨k0.cell 0,k0.cell 1,k0.cell 2,k0.cell 3⟩
 have HV:=hide hV
 have HK:=hide (And.intro bV (And.intro k0 (And.intro k1 (And.intro k2 H1))))
 have HF:=hide (show ∀ (X:World),Below V.heap.size V X→∀ (cd:Int) (at':Nat),ldc (zsL bl) n s c k d=(cd,at')→cd≠0→LdQ False w (zsL bl) n s c k d (.returned (.tuple #[.agg #[.slice none 0 0,.int .i64 0,.int .i64 0,.int .i64 0,.int .i64 0,.int .i64 0,.slice none 0 0,.slice none 0 0,.slice none 0 0,.slice none 0 0,.int .i64 0,.int .i64 0,.slice none 0 0,.slice none 0 0,.int .i64 0],.int .i64 cd,.int .i64 (at':Nat)])) (st15 X (w.heap.size+1) (.slice none 0 0) (.int .i64 0) (.int .i64 0) (.int .i64 0) (.int .i64 0) (.int .i64 0) (.slice none 0 0) (.slice none 0 0) (.slice none 0 0) (.slice none 0 0) (.int .i64 0) (.int .i64 0) (.slice none 0 0) (.slice none 0 0) (.int .i64 0)) from fun X hX cd at' e1 e2=>by
  have q:=ldq_zero (own:=False) (below_turn (bV.trans (hX.mono bV.size)) (turn_st15 X (w.heap.size+1) (.slice none 0 0) (.int .i64 0) (.int .i64 0) (.int .i64 0) (.int .i64 0) (.int .i64 0) (.slice none 0 0) (.slice none 0 0) (.slice none 0 0) (.slice none 0 0) (.int .i64 0) (.int .i64 0) (.slice none 0 0) (.slice none 0 0) (.int .i64 0)) (fun j hj=>by omega) (Nat.le_trans bV.size hX.size)) (show (ldc (zsL bl) n s c k d).1≠0 by rw [e1];exact e2)
  rw [e1] at q
  exact q)
 have HV0:=hide hV0
 clear hV hV0 T0 bV0 k00 k01 k02 bV k0 k1 k2 H H1
 unfold st15 at HV
 go_enter Tryz.func18,Tryz.ntmps18
 go_wp2_with (first | rw [← HV0.out] | rw [← HV.out])
 refine CC.out.mono ?_
 rintro e w1 ⟨rfl,b1⟩
 have HB1:=hide b1
 clear c0q f0q c1q f1q c2q f2q c3q f3q c4q f4q c5q f5q c6q f6q c7q f7q c8q f8q c9q f9q c10q f10q c11q f11q c12q f12q c13q f13q c14q f14q
 clear u0 u1 u2 u3 b1 CC
 have K1:=HK.out.2.2.1.below HB1.out
 unfold z15 at K1
 obtain ⟨c0q,c1q,c2q,c3q,c4q,c5q,c6q,c7q,c8q,c9q,c10q,c11q,c12q,c13q,c14q⟩:=K1.mc
 have f0q:=K1.frozen 0
 have f1q:=K1.frozen 1
 have f2q:=K1.frozen 2
 have f3q:=K1.frozen 3
 have f4q:=K1.frozen 4
 have f5q:=K1.frozen 5
 have f6q:=K1.frozen 6
 have f7q:=K1.frozen 7
 have f8q:=K1.frozen 8
 have f9q:=K1.frozen 9
 have f10q:=K1.frozen 10
 have f11q:=K1.frozen 11
 have f12q:=K1.frozen 12
 have f13q:=K1.frozen 13
 have f14q:=K1.frozen 14
 have K2:=HK.out.2.2.2.1.below HB1.out
 unfold z15 at K2
 obtain ⟨e0q,e1q,e2q,e3q,e4q,e5q,e6q,e7q,e8q,e9q,e10q,e11q,e12q,e13q,e14q⟩:=K2.mc
 clear K2
 clear K1
 cases hcf:cfo s c k d
 ·have HC:=hide hcf
  clear hcf
  go_wp2
  refine ls_end (HK.out.2.2.1.below HB1.out) _ _ _ _ _ _ _ _ _ _ _ _ _ _ _ _ _ rfl rfl rfl ?_
  exact HF.out w1 HB1.out 1 0 (by unfold ldc;rw [if_pos HC.out]) (by decide)
 have HC:=hide hcf
 clear hcf
 by_cases hn1:n<1∨4<n
 ·have HN:=hide hn1
  rcases hn1 with h | h
  ·have h':(n:Int)<1:=by omega
   go_wp2
   refine ls_end (HK.out.2.2.1.below HB1.out) _ _ _ _ _ _ _ _ _ _ _ _ _ _ _ _ _ rfl rfl rfl ?_
   exact HF.out w1 HB1.out 2 0 (by unfold ldc;rw [if_neg (by rw [HC.out];decide),if_pos HN.out]) (by decide)
  ·have h':¬ (n:Int)<1:=by omega
   have h2:(4:Int)<(n:Int):=by omega
   go_wp2
   refine ls_end (HK.out.2.2.1.below HB1.out) _ _ _ _ _ _ _ _ _ _ _ _ _ _ _ _ _ rfl rfl rfl ?_
   exact HF.out w1 HB1.out 2 0 (by unfold ldc;rw [if_neg (by rw [HC.out];decide),if_pos HN.out]) (by decide)
 have h1:¬ (n:Int)<1:=by omega
 have h2:¬ (4:Int)<(n:Int):=by omega
 have HN:=hide hn1
 have hn4:n≤4:=by omega
 clear c0q f0q e0q c1q f1q e1q c2q f2q e2q c3q f3q e3q c4q f4q e4q c5q f5q e5q c6q f6q e6q c7q f7q e7q c8q f8q e8q c9q f9q e9q c10q f10q e10q c11q f11q e11q c12q f12q e12q c13q f13q e13q c14q f14q e14q
 clear hn1
 have S0:=omp_new w1 w1.heap.size (Nat.le_refl _)
 have B0:Below w1.heap.size w1 (w1.alloc (.cells #[] 104)):=(Below.refl _ _).alloc (Nat.le_refl _) _
 have HS0:=hide (And.intro S0 B0)
 have HH:=hide (HK.out.2.2.2.2.below HB1.out)
 clear S0 B0
 go_wp2
 go_loopw [8,9] (fun v i wr=>∃ j:Nat,j≤n∧i=.int .i64 j∧(∀ q,q<j→pcd (zsL bl) q=0)∧∃ L β,OMp wr w1.heap.size v L β∧L.map (fun x=>x.1)=pal (zsL bl) j∧Below w1.heap.size w1 wr) (fun _ i _=>n - (intOf i).toNat)
 case atStart=>exact ⟨0,Nat.zero_le _,rfl,fun q hq=>absurd hq (Nat.not_lt_zero _),[],_,HS0.out.1,rfl,HS0.out.2⟩
 case round=>
  obtain ⟨j,hj,rfl,hk,L,β,O,hL,B⟩:=hrel
  have hl:L.length=j:=by have:=congrArg List.length hL;simpa [pal] using this
  obtain ⟨av,cv,rfl⟩:=og_shape O.o
  rw [hl] at O ⊢
  by_cases hlt:j<n
  ·have hlt':(j:Int)<(n:Int):=by omega
   have I:=HH.out.below B
   obtain ⟨c0,b0⟩:=I.at j hlt
   have l0:=I.lt j hlt
   obtain ⟨z1,z2⟩:=I.z j hlt
   have hzj:=zsL_at (bl:=bl) (i:=j) (by rw [I.l];exact hlt)
   have CP:=hide (sParseModule_any (gs.getD j 0) (bl.getD j zB).2.1 (bl.getD j zB).2.1 (bl.getD j zB).2.2.2 wr b0 z2 l0)
   have hpc:pcd (zsL bl) j=(prs (bl.getD j zB).2.2.2).1:=by unfold pcd;rw [hzj]
   have HPO:=hide (show pal (zsL bl) (j+1)=pal (zsL bl) j++[pOf (bl.getD j zB).2.2.2] by rw [pal_succ,hzj])
   clear I b0 l0 z2 hzj
   generalize (bl.getD j zB).2.2.2=zs at *
   generalize (bl.getD j zB).2.1=zn at *
   generalize gs.getD j 0=gj at *
   have HO:=hide (And.intro O (And.intro hL B))
   have HQ:=hide (And.intro hk hpc)
   have HBy:=hide z1
   clear O hL B hk hpc z1
   go_wp2_with fail
   refine CP.out.mono ?_
   intro e w2 hP
   by_cases hz:(prs zs).1=0
   ·obtain ⟨P,e1,e2,R⟩:=prs_ok HBy.out hz
    unfold PaPost at hP
    rw [e1] at hP
    obtain ⟨b1,a1,d1,a2,d2,bl',a3,d3,a5,d5,a6,d6,a7,d7,rfl,mo⟩:=hP
    obtain ⟨w3,hw3⟩:∃ w3,w3=w2.alloc (.cells #[.string P.nm,.slice a1 P.tz.length d1,.slice a2 bl'.length d2,.slice a3 P.dz.length d3,.int .i64 P.bss,.slice a5 P.rz.length d5,.slice a6 P.ss.length d6,.slice a7 P.es.length d7] 104):=⟨_,rfl⟩
    have b2:Below w2.heap.size w2 w3:=by rw [hw3];exact (Below.refl _ _).alloc (Nat.le_refl _) _
    have k2:Blk w3 w2.heap.size #[.string P.nm,.slice a1 P.tz.length d1,.slice a2 bl'.length d2,.slice a3 P.dz.length d3,.int .i64 P.bss,.slice a5 P.rz.length d5,.slice a6 P.ss.length d6,.slice a7 P.es.length d7] 104:=by rw [hw3];exact Blk.new _ _ _
    have b3:Below w3.heap.size w3 (w3.alloc (.cells #[.string P.nm,.slice a1 P.tz.length d1,.slice a2 bl'.length d2,.slice a3 P.dz.length d3,.int .i64 P.bss,.slice a5 P.rz.length d5,.slice a6 P.ss.length d6,.slice a7 P.es.length d7] 104)):=(Below.refl _ _).alloc (Nat.le_refl _) _
    have b23:=b2.trans (b3.mono b2.size)
    obtain ⟨O,hL,B⟩:=HO.out
    have B1:=B.trans (b1.mono B.size)
    have hs:=Nat.le_trans B1.size (Nat.le_trans b2.size b3.size)
    have HOW:=hide (show (w3.alloc (.cells #[.string P.nm,.slice a1 P.tz.length d1,.slice a2 bl'.length d2,.slice a3 P.dz.length d3,.int .i64 P.bss,.slice a5 P.rz.length d5,.slice a6 P.ss.length d6,.slice a7 P.es.length d7] 104)).ownsRow w1.heap.size 104 8 (.slice av j cv) j (L.flatMap clB) by
     have o:=(O.below (b1.trans (b23.mono b1.size))).o
     unfold OG at o
     rw [hl] at o
     exact o)
    have HNW:=hide (cells_new w3 #[.string P.nm,.slice a1 P.tz.length d1,.slice a2 bl'.length d2,.slice a3 P.dz.length d3,.int .i64 P.bss,.slice a5 P.rz.length d5,.slice a6 P.ss.length d6,.slice a7 P.es.length d7] 104 (clB (P,(⟨a1,d1,a2,d2,bl',a3,d3,a5,d5,a6,d6,a7,d7⟩:Mb))) rfl)
    have HPU:=hide (fun (v':Value) (w4:World) hown hgr=>And.intro (O.push (x:=(P,(⟨a1,d1,a2,d2,bl',a3,d3,a5,d5,a6,d6,a7,d7⟩:Mb))) (v':=v') (w4:=w4) hl b1 mo R b23 hown hgr) (show Below w1.heap.size w1 w4 from below_turn (B1.trans (b23.mono B1.size)) (S:=fun q=>(Value.slice av j cv).ownBlock=some q) ⟨hgr.os,hgr.tape,hgr.output,hgr.size,fun q hq hs=>hgr.block q hq (fun e=>hs e.symm)⟩ (fun q hq=>(O.o.lt q hq).1) hs))
    have HW3:=hide hw3
    obtain ⟨q0,q1,q2,q3,q4,q5,q6,q7⟩:=Blk.eight' k2
    have HLL:=hide hL
    clear hw3 b2 k2 b3 b23 O hL B B1 b1 mo HO CP
    unfold modV
    dsimp only
    go_wp2_with (first | (at_builtin;refine wpList_append_own _ rfl _ _ 31 rfl w1.heap.size 104 iM _ 8 _ Tryz.underlying31 hiM hz0 hz1 hz2 rfl (by decide) (.slice av j cv) j (L.flatMap clB) rfl HOW.out ⟨w3.heap.size,0,none⟩ 1 1 (clB (P,(⟨a1,d1,a2,d2,bl',a3,d3,a5,d5,a6,d6,a7,d7⟩:Mb))) rfl rfl HNW.out (by intro u hu;simp [clB,clH,hdP] at hu;rcases hu with rfl | rfl | rfl | rfl | rfl | rfl | rfl | rfl <;> rfl) (by unfold maxLen;omega) (by omega) (by omega) ?_;intro v' w4 hown hgr _) | rw [← HW3.out])
    have HP:=hide (HPU.out v' w4 hown hgr)
    clear hown hgr HPU HOW HNW q0 q1 q2 q3 q4 q5 q6 q7
    go_wp2
    go_roundw
    case rel=>exact ⟨j+1,by omega,by go_num,fun q hq=>by
     by_cases e:q=j
     ·subst e;rw [HQ.out.2];exact hz
     ·exact HQ.out.1 q (by omega),_,_,HP.out.1,by rw [List.map_append,HLL.out,HPO.out,e2];rfl,HP.out.2⟩
    case measure=>simp [intOf];omega
   ·unfold PaPost at hP
    rw [prs_no hz] at hP
    obtain ⟨b1,rfl⟩:=hP
    have HP:=hide (show ldc (zsL bl) n s c k d=(10+(prs zs).1,j) by
     have e1:=HQ.out.2
     have e2:=fnz_some (f:=pcd (zsL bl)) (i:=j) (by rw [e1];exact hz) HQ.out.1 n hlt
     unfold ldc
     rw [if_neg (by rw [HC.out];decide),if_neg HN.out,e2]
     dsimp only
     rw [e1])
    have hr:=pcd_range (zsL bl) j
    rw [HQ.out.2] at hr
    have B1:=HO.out.2.2.trans (b1.mono HO.out.2.2.size)
    have B2:=HB1.out.trans (B1.mono HB1.out.size)
    have HB2:=hide (B2.alloc B2.size (.cells #[.string ⟨#[]⟩,.slice none 0 0,.slice none 0 0,.slice none 0 0,.int .i64 0,.slice none 0 0,.slice none 0 0,.slice none 0 0] 104))
    have hj4:j≤4:=by omega
    clear HO CP b1 B1 B2
    have K1:=HK.out.2.2.1.below HB2.out
    unfold z15 at K1
    obtain ⟨c0q,c1q,c2q,c3q,c4q,c5q,c6q,c7q,c8q,c9q,c10q,c11q,c12q,c13q,c14q⟩:=K1.mc
    have f0q:=K1.frozen 0
    have f1q:=K1.frozen 1
    have f2q:=K1.frozen 2
    have f3q:=K1.frozen 3
    have f4q:=K1.frozen 4
    have f5q:=K1.frozen 5
    have f6q:=K1.frozen 6
    have f7q:=K1.frozen 7
    have f8q:=K1.frozen 8
    have f9q:=K1.frozen 9
    have f10q:=K1.frozen 10
    have f11q:=K1.frozen 11
    have f12q:=K1.frozen 12
    have f13q:=K1.frozen 13
    have f14q:=K1.frozen 14
    have K2:=HK.out.2.2.2.1.below HB2.out
    unfold z15 at K2
    obtain ⟨e0q,e1q,e2q,e3q,e4q,e5q,e6q,e7q,e8q,e9q,e10q,e11q,e12q,e13q,e14q⟩:=K2.mc
    clear K2
    clear K1
    dsimp only
    unfold z8
    generalize (prs zs).1=cd at *
    go_wp2
    refine ls_end (HK.out.2.2.1.below HB2.out) _ _ _ _ _ _ _ _ _ _ _ _ _ _ _ _ _ rfl rfl rfl ?_
    exact HF.out _ HB2.out (10+cd) j HP.out (by omega)
  ·have ejn:n=j:=by omega
   subst ejn
   clear hlt
   have hB2:=HB1.out.trans (B.mono HB1.out.size)
   have HB2:=hide hB2
   obtain ⟨gv,cp,ev,_⟩:=World.ownsRow.form O.o (by omega)
   simp only [Value.slice.injEq] at ev
   obtain ⟨rfl,-,rfl⟩:=ev
   have hps:pmS (L.map mdP)=pal (zsL bl) n:=O.pms.trans hL
   obtain ⟨a',cap',ev,M2⟩:=O.msd (by omega)
   rw [hl] at ev M2
   simp only [Value.slice.injEq] at ev
   obtain ⟨rfl,-,rfl⟩:=ev
   have CL:=hide (sLink_any (some ⟨gv,0,none⟩) n cv (L.map mdP) s c k d wr M2)
   rw [hps] at CL
   have HPS:=hide hps
   have HM2:=hide (And.intro M2 (And.intro O hL))
   have HZ:=hide (show fnz (pcd (zsL bl)) n=none from fnz_none n hk)
   have HLB:=hide (layB_lk (pal (zsL bl) n) s c k d)
   have HLV:=hide (lkL_v (pal (zsL bl) n) s c k d)
   have hlr:=lkc_range (pal (zsL bl) n) s c k d
   have HLK:=hide (fun h:lkc (pal (zsL bl) n) s c k d=0=>And.intro (lok_lk h) (show lkL (pal (zsL bl) n) s c k d=lay (pal (zsL bl) n) s c k by unfold lkL;rw [if_pos h]))
   have HE4:=hide (show lkc (pal (zsL bl) n) s c k d≠0→ldc (zsL bl) n s c k d=(40+lkc (pal (zsL bl) n) s c k d,0) from fun h=>by unfold ldc;rw [if_neg (by rw [HC.out];decide),if_neg HN.out,HZ.out];dsimp only;rw [if_pos h])
   have HE6:=hide (show lkc (pal (zsL bl) n) s c k d=0→¬ FitP (pal (zsL bl) n) (lay (pal (zsL bl) n) s c k)→ldc (zsL bl) n s c k d=(60,0) from fun h h2=>by unfold ldc;rw [if_neg (by rw [HC.out];decide),if_neg HN.out,HZ.out];dsimp only;rw [if_neg (by rw [h];decide),if_neg h2])
   have HE0:=hide (show lkc (pal (zsL bl) n) s c k d=0→FitP (pal (zsL bl) n) (lay (pal (zsL bl) n) s c k)→ldc (zsL bl) n s c k d=(0,0) from fun h h2=>by unfold ldc;rw [if_neg (by rw [HC.out];decide),if_neg HN.out,HZ.out];dsimp only;rw [if_neg (by rw [h];decide),if_pos h2])
   unfold LkM at CL
   generalize lkc (pal (zsL bl) n) s c k d=cd at *
   have Q0:=HK.out.2.1.below HB2.out
   obtain ⟨u0,u1,u2,u3⟩:=show wr.cell? ⟨w.heap.size,0,none⟩=some (.int .i64 s)∧wr.cell? ⟨w.heap.size,1,none⟩=some (.int .i64 c)∧wr.cell? ⟨w.heap.size,2,none⟩=some (.int .i64 k)∧wr.cell? ⟨w.heap.size,3,none⟩=some (.int .i64 d) from ⟨Q0.cell 0,Q0.cell 1,Q0.cell 2,Q0.cell 3⟩
   clear Q0 M2 O hL hps hk B hB2
   go_wp2_with fail
   refine CL.out.mono ?_
   rintro e w3 ⟨b3,a0,d0,xs,a2,d2,a5,d5,ts,rfl,O3⟩
   have HO3:=hide (O3.lyt HLB.out.r HLV.out)
   have HB3:=hide (HB2.out.trans (b3.mono HB2.out.size))
   have HB23:=hide b3
   clear O3 b3 CL u0 u1 u2 u3
   unfold layV
   by_cases hcd:cd=0
   rotate_left
   ·generalize lkL (pal (zsL bl) n) s c k d=Ly at *
    have b4:Below w3.heap.size w3 (w3.alloc (.cells #[.slice a0 xs.length d0,.int .i64 Ly.stack,.slice a2 Ly.slots.length d2,.int .i64 Ly.flash,.int .i64 Ly.ram,.slice a5 ts.length d5] 36)):=(Below.refl _ _).alloc (Nat.le_refl _) _
    have B4:=HB3.out.trans (b4.mono HB3.out.size)
    have HB4:=hide B4
    clear B4 b4
    have K1:=HK.out.2.2.1.below HB4.out
    unfold z15 at K1
    obtain ⟨c0q,c1q,c2q,c3q,c4q,c5q,c6q,c7q,c8q,c9q,c10q,c11q,c12q,c13q,c14q⟩:=K1.mc
    have f0q:=K1.frozen 0
    have f1q:=K1.frozen 1
    have f2q:=K1.frozen 2
    have f3q:=K1.frozen 3
    have f4q:=K1.frozen 4
    have f5q:=K1.frozen 5
    have f6q:=K1.frozen 6
    have f7q:=K1.frozen 7
    have f8q:=K1.frozen 8
    have f9q:=K1.frozen 9
    have f10q:=K1.frozen 10
    have f11q:=K1.frozen 11
    have f12q:=K1.frozen 12
    have f13q:=K1.frozen 13
    have f14q:=K1.frozen 14
    have K2:=HK.out.2.2.2.1.below HB4.out
    unfold z15 at K2
    obtain ⟨e0q,e1q,e2q,e3q,e4q,e5q,e6q,e7q,e8q,e9q,e10q,e11q,e12q,e13q,e14q⟩:=K2.mc
    clear K2
    clear K1
    go_wp2
    refine ls_end (HK.out.2.2.1.below HB4.out) _ _ _ _ _ _ _ _ _ _ _ _ _ _ _ _ _ rfl rfl rfl ?_
    exact HF.out _ HB4.out (40+cd) 0 (HE4.out hcd) (by omega)
   subst hcd
   obtain ⟨hlo,hlk⟩:=HLK.out rfl
   rw [hlk] at HO3 HLB HLV
   rw [hlk]
   have HLO:=hide hlo
   have HE60:=hide (HE6.out rfl)
   have HE00:=hide (HE0.out rfl)
   clear hlo hlk HLK HE4 HE6 HE0
   generalize hLy:lay (pal (zsL bl) n) s c k=Ly at *
   have HLy:=hide hLy
   clear hLy
   obtain ⟨w4,hw4⟩:∃ w4,w4=w3.alloc (.cells #[.slice a0 xs.length d0,.int .i64 Ly.stack,.slice a2 Ly.slots.length d2,.int .i64 Ly.flash,.int .i64 Ly.ram,.slice a5 ts.length d5] 36):=⟨_,rfl⟩
   have b4:Below w3.heap.size w3 w4:=by rw [hw4];exact (Below.refl _ _).alloc (Nat.le_refl _) _
   have k4:Blk w4 w3.heap.size #[.slice a0 xs.length d0,.int .i64 Ly.stack,.slice a2 Ly.slots.length d2,.int .i64 Ly.flash,.int .i64 Ly.ram,.slice a5 ts.length d5] 36:=by rw [hw4];exact Blk.new _ _ _
   have B4:=HB3.out.trans (b4.mono HB3.out.size)
   have B24:=HB23.out.trans (b4.mono HB23.out.size)
   have CF:=hide (sFits_any (some ⟨gv,0,none⟩) n cv (L.map mdP) Ly a0 d0 xs a2 d2 a5 d5 ts w4 (HM2.out.1.below B24) (HO3.out.below b4))
   rw [HPS.out] at CF
   obtain ⟨p0,p1,p2,p3,p4,p5⟩:=k4.ly6
   have HK4:=hide (And.intro B4 (And.intro B24 (And.intro k4 (HO3.out.below b4))))
   have HW4:=hide hw4
   clear hw4 b4 k4 B4 B24
   go_wp2_with (rw [← HW4.out])
   refine CF.out.mono ?_
   rintro e w5 ⟨fb,rfl,hf,b5⟩
   obtain ⟨B4,B24,k4,y4⟩:=HK4.out
   have B5:=B4.trans (b5.mono B4.size)
   have B25:=B24.trans (b5.mono B24.size)
   have HK5:=hide (And.intro B5 (And.intro B25 (And.intro (k4.below b5) (y4.below b5))))
   clear p0 p1 p2 p3 p4 p5 b5 B4 B24 k4 y4 B5 B25 HK4 CF
   cases fb with
   | false=>
     have HFb:=hide (HE60.out (fun q=>by simpa using hf.2 q))
     clear hf
     have K1:=HK.out.2.2.1.below HK5.out.1
     unfold z15 at K1
     obtain ⟨c0q,c1q,c2q,c3q,c4q,c5q,c6q,c7q,c8q,c9q,c10q,c11q,c12q,c13q,c14q⟩:=K1.mc
     have f0q:=K1.frozen 0
     have f1q:=K1.frozen 1
     have f2q:=K1.frozen 2
     have f3q:=K1.frozen 3
     have f4q:=K1.frozen 4
     have f5q:=K1.frozen 5
     have f6q:=K1.frozen 6
     have f7q:=K1.frozen 7
     have f8q:=K1.frozen 8
     have f9q:=K1.frozen 9
     have f10q:=K1.frozen 10
     have f11q:=K1.frozen 11
     have f12q:=K1.frozen 12
     have f13q:=K1.frozen 13
     have f14q:=K1.frozen 14
     have K2:=HK.out.2.2.2.1.below HK5.out.1
     unfold z15 at K2
     obtain ⟨e0q,e1q,e2q,e3q,e4q,e5q,e6q,e7q,e8q,e9q,e10q,e11q,e12q,e13q,e14q⟩:=K2.mc
     clear K2
     clear K1
     go_wp2
     refine ls_end (HK.out.2.2.1.below HK5.out.1) _ _ _ _ _ _ _ _ _ _ _ _ _ _ _ _ _ rfl rfl rfl ?_
     exact HF.out _ HK5.out.1 60 0 HFb.out (by decide)
   | true=>
     have HFb:=hide (HE00.out (hf.1 rfl))
     clear hf
     have hcf:=HC.out
     unfold cfo at hcf
     simp at hcf
     have hs0:0≤s:=by omega
     have hs4:s.toNat≤4:=by omega
     obtain ⟨B5,B25,k5,y5⟩:=HK5.out
     have CN:=hide (l8Machine_any gv n cv w1.heap.size L β Ly a0 d0 xs a2 d2 a5 d5 ts s.toNat c k d w5 (HM2.out.2.1.below B25) hl hn4 y5 (by rw [HPS.out];exact HLO.out) hs4)
     unfold LmP at CN
     rw [HPS.out,Int.toNat_of_nonneg hs0] at CN
     obtain ⟨p0,p1,p2,p3,p4,p5⟩:=k5.ly6
     have Q0:=HK.out.2.1.below B5
     obtain ⟨u0,u1,u2,u3⟩:=show w5.cell? ⟨w.heap.size,0,none⟩=some (.int .i64 s)∧w5.cell? ⟨w.heap.size,1,none⟩=some (.int .i64 c)∧w5.cell? ⟨w.heap.size,2,none⟩=some (.int .i64 k)∧w5.cell? ⟨w.heap.size,3,none⟩=some (.int .i64 d) from ⟨Q0.cell 0,Q0.cell 1,Q0.cell 2,Q0.cell 3⟩
     have HNS:=hide (And.intro hs0 hs4)
     clear Q0 B5 B25 k5 y5 hcf hs0 hs4
     go_wp2_with fail
     refine CN.out.mono ?_
     rintro e w6 ⟨a,cap,L',β',gk,a1,n1,e1,a2',n2,e2,a3,n3,e3,gl,gf,rfl,N6,F6,f6,O6,L6,b6⟩
     have B6:=HK5.out.1.trans (b6.mono HK5.out.1.size)
     have HN6:=hide (And.intro B6 (And.intro (And.intro N6 (And.intro F6 f6)) (And.intro (And.intro O6 L6) b6)))
     clear u0 u1 u2 u3 p0 p1 p2 p3 p4 p5 CN N6 F6 f6 O6 L6 b6 B6
     have K1:=HK.out.2.2.1.below HN6.out.1
     unfold z15 at K1
     obtain ⟨c0q,c1q,c2q,c3q,c4q,c5q,c6q,c7q,c8q,c9q,c10q,c11q,c12q,c13q,c14q⟩:=K1.mc
     have f0q:=K1.frozen 0
     have f1q:=K1.frozen 1
     have f2q:=K1.frozen 2
     have f3q:=K1.frozen 3
     have f4q:=K1.frozen 4
     have f5q:=K1.frozen 5
     have f6q:=K1.frozen 6
     have f7q:=K1.frozen 7
     have f8q:=K1.frozen 8
     have f9q:=K1.frozen 9
     have f10q:=K1.frozen 10
     have f11q:=K1.frozen 11
     have f12q:=K1.frozen 12
     have f13q:=K1.frozen 13
     have f14q:=K1.frozen 14
     clear K1
     generalize hns:s.toNat=ns at *
     have HNE:=hide hns
     clear hns
     go_wp2
     refine ls_end (HK.out.2.2.1.below HN6.out.1) _ _ _ _ _ _ _ _ _ _ _ _ _ _ _ _ _ rfl rfl rfl ?_
     obtain ⟨B6,⟨N6,F6,f6⟩,⟨O6,L6⟩,b6⟩:=HN6.out
     obtain ⟨M2,O2,hL⟩:=HM2.out
     have hq:w.heap.size+1<V.heap.size:=HK.out.2.2.1.lt
     have hq2:V.heap.size≤w5.heap.size:=HK5.out.1.size
     have hbV:=HK.out.1
     have hne:=HNE.out
     subst hne
     have T:=turn_st15 w6 (w.heap.size+1) (.slice a n cap) (.int .i64 s) (.int .i64 c) (.int .i64 k) (.int .i64 d) (.int .i64 0) (.slice (some ⟨gk,0,none⟩) 8 8) (.slice a1 n1 e1) (.slice a2' n2 e2) (.slice a3 n3 e3) (.int .i64 0) (.int .i64 (-1)) (.slice (some ⟨gl,0,none⟩) s.toNat s.toNat) (.slice (some ⟨gf,0,none⟩) 0 0) (.int .i64 0)
     have hk6:=turn_blk T F6 (show gf≠w.heap.size+1 by omega)
     refine ldq_ok (below_turn (hbV.trans (B6.mono hbV.size)) T (fun j hj=>by omega) (Nat.le_trans hbV.size B6.size)) HFb.out (O6.turn T (fun j hj=>by omega)) (L6.trans hL) (by rw [HLy.out];exact N6.turn T (fun j hj=>by omega)) ⟨by simp,.inr ⟨gf,0,#[],rfl,f6,hk6,Nat.le_refl _,Nat.zero_le _,rfl,rfl⟩⟩ (Nat.le_trans hbV.size hq2) (Nat.le_refl _) (fun h=>h.elim)
end Go.Proofs.YtngdgogjlpjjpaeGreat
