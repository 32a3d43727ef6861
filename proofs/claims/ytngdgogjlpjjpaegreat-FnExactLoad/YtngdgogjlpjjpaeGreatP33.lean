import Derived.Test.YtngdgogjlpjjpaeGreatP14
import Derived.Test.YtngdgogjlpjjpaeGreatP25
import Derived.Test.YtngdgogjlpjjpaeGreatP06
import Derived.Test.YtngdgogjlpjjpaeGreatP26
import Derived.Test.YtngdgogjlpjjpaeGreatP28
import Derived.Test.YtngdgogjlpjjpaeGreatP32
set_option maxHeartbeats 8000000
namespace Go.Proofs.YtngdgogjlpjjpaeGreat
open Go.RowKit Classical
set_option linter.unusedVariables false
set_option linter.unusedSimpArgs false
set_option maxRecDepth 100000
theorem l8Machine_any (g n cap b:Nat)(Lm:List (PMod × Mb))(β:Nat→Nat)(L:Lay)(a0:Option Addr)(c0:Nat)(xs:List PB)(a2:Option Addr)(c2:Nat)(a5:Option Addr)(c5:Nat)(ts:List TB)(ns:Nat)(x2 x3 x4:Int)(w:World)(H:OMp w b (.slice (some ⟨g,0,none⟩) n cap) Lm β)(hl:Lm.length=n)(hn4:n≤4)(hL:LyT w L a0 c0 xs a2 c2 a5 c5 ts)(hk:Lok (pmS (Lm.map mdP)) L)(hn:ns≤4):
 Calls Tryz.prog 73 #[.slice (some ⟨g,0,none⟩) n cap,.agg #[.int .i64 (ns:Nat),.int .i64 x2,.int .i64 x3,.int .i64 x4],.agg #[.slice a0 xs.length c0,.int .i64 L.stack,.slice a2 L.slots.length c2,.int .i64 L.flash,.int .i64 L.ram,.slice a5 ts.length c5]] w (LmP w Lm n (pmS (Lm.map mdP)) L ns x2 x3 x4):=by
 obtain ⟨a',cap',e',h⟩:=H.msd (by omega)
 rw [hl] at e' h
 simp only [Value.slice.injEq] at e'
 obtain ⟨rfl,-,rfl⟩:=e'
 obtain ⟨V,hV⟩:∃ V,V=((w.alloc (.cells #[.int .i64 (ns:Nat),.int .i64 x2,.int .i64 x3,.int .i64 x4] 44)).alloc (.cells #[.slice a0 xs.length c0,.int .i64 L.stack,.slice a2 L.slots.length c2,.int .i64 L.flash,.int .i64 L.ram,.slice a5 ts.length c5] 36)).alloc (.cells z15 54):=⟨_,rfl⟩
 have bV:Below w.heap.size w V:=by rw [hV];exact (((Below.refl _ _).alloc (Nat.le_refl _) _).alloc (by simp) _).alloc (by simp;omega) _
 have k0:Blk V w.heap.size #[.int .i64 (ns:Nat),.int .i64 x2,.int .i64 x3,.int .i64 x4] 44:=by rw [hV];exact ((Blk.new w _ _).alloc _).alloc _
 have k1:Blk V (w.heap.size+1) #[.slice a0 xs.length c0,.int .i64 L.stack,.slice a2 L.slots.length c2,.int .i64 L.flash,.int .i64 L.ram,.slice a5 ts.length c5] 36:=by rw [hV];have:=(Blk.new (w.alloc (.cells #[.int .i64 (ns:Nat),.int .i64 x2,.int .i64 x3,.int .i64 x4] 44)) #[.slice a0 xs.length c0,.int .i64 L.stack,.slice a2 L.slots.length c2,.int .i64 L.flash,.int .i64 L.ram,.slice a5 ts.length c5] 36).alloc (.cells z15 54);simpa using this
 have k2:Blk V (w.heap.size+1+1) z15 54:=by rw [hV];have:=Blk.new ((w.alloc (.cells #[.int .i64 (ns:Nat),.int .i64 x2,.int .i64 x3,.int .i64 x4] 44)).alloc (.cells #[.slice a0 xs.length c0,.int .i64 L.stack,.slice a2 L.slots.length c2,.int .i64 L.flash,.int .i64 L.ram,.slice a5 ts.length c5] 36)) z15 54;simpa using this
 have CI:=hide (sImage_any (some ⟨g,0,none⟩) n cap (Lm.map mdP) L a0 c0 xs a2 c2 a5 c5 ts V (h.below bV) (hL.below bV))
 unfold ImM at CI
 rw [decide_eq_true hk] at CI
 obtain ⟨p0,p1,p2,p3,p4,p5⟩:=k1.ly6
 have HV:=hide hV
 have HK:=hide (And.intro bV (And.intro k0 (And.intro k2 H)))
 clear hV bV k0 k1 k2 h hL hk H
 unfold z15 at HV
 go_enter Tryz.func73,Tryz.ntmps73
 go_wp2_with (rw [← HV.out])
 refine CI.out.mono ?_
 rintro e w1 ⟨b1,a1,n1,e1,a2',n2,e2,a3,n3,e3,rfl,O1⟩
 obtain ⟨bV,k0,k2,H⟩:=HK.out
 obtain ⟨w2,hw2⟩:∃ w2,w2=w1.alloc (.cells #[.slice a1 n1 e1,.slice a2' n2 e2,.slice a3 n3 e3] 50):=⟨_,rfl⟩
 have b2:Below w1.heap.size w1 w2:=by rw [hw2];exact (Below.refl _ _).alloc (Nat.le_refl _) _
 have k3:Blk w2 w1.heap.size #[.slice a1 n1 e1,.slice a2' n2 e2,.slice a3 n3 e3] 50:=by rw [hw2];exact Blk.new _ _ _
 have b12:=b1.trans (b2.mono b1.size)
 have K0:=k0.below b12
 have K2:=k2.below b12
 have HOM:=hide (H.below (bV.trans (b12.mono bV.size)))
 have HE:=hide (And.intro (bV.trans (b12.mono bV.size)) (And.intro O1 b2))
 have HSZ:=hide (show (w.heap.size≤w.heap.size+1+1∧w.heap.size+1+1<V.heap.size)∧V.heap.size≤w1.heap.size∧w1.heap.size<w2.heap.size from ⟨⟨by omega,k2.lt⟩,b1.size,k3.lt⟩)
 have HW2:=hide hw2
 have HC0:=hide K0
 have HC2:=hide K2
 have HC3:=hide k3
 clear p0 p1 p2 p3 p4 p5 hw2 b1 b2 b12 k0 k2 k3 K0 K2 O1 bV HK CI H
 go_wp2_with (first | rw [← HW2.out] | fail)
 refine wp_region_inv0 (by kernel_rfl) (fun _ listed a W=>I10 w2 g n cap w.heap.size w1.heap.size (w.heap.size+1+1) ns x2 x3 x4 a1 n1 e1 a2' n2 e2 a3 n3 e3 Lm listed a W) ?_ ?_ ?_
 ·exact ⟨rfl,rfl,rfl,rfl,rfl,rfl,rfl,fun _=>⟨(Below.refl _ _).drew,fun j hj hl=>absurd hl (by simp [Array.getElem?_replicate];split <;> simp)⟩,fun f=>absurd f (by simp [Array.getElem?_replicate])⟩
 ·intro listed a W i K hI hi hK
  have hlt:i<12:=by obtain ⟨_,o,ho,_⟩:=mem_ready.1 hi;exact (Array.getElem?_eq_some_iff.1 ho).1
  have hb:=(mem_ready.1 hi).1
  have BW:=hI.bel hlt hb
  rcases (show i=0∨i=1∨i=2∨i=3∨i=4∨i=5∨i=6∨i=7∨i=8∨i=9∨i=10∨i=11 by omega) with rfl | rfl | rfl | rfl | rfl | rfl | rfl | rfl | rfl | rfl | rfl | rfl
  · -- 0
    have y0:=hI.e0
    refine wpoV (o:=_) rfl rfl (w':=W) (v:=.slice (some ⟨g,0,none⟩) n cap) ?_ (hK _ _ (hI.next (i:=0) (by omega) hb _ _ (Below.refl _ _) rfl))
    simp only [Array.getD_eq_getD_getElem?] at y0
    go_simp
  · -- 1
    have t0:=rdy_pre (o:=_) hi rfl ⟨0,.data⟩ (by simp) rfl
    have v0:=hI.at hlt hb 0 (by omega) t0
    refine wpoC (o:=_) (f:=163) (args:=#[.slice (some ⟨g,0,none⟩) n cap]) rfl rfl (w':=W) ?_ (l7Mods_any g n cap b Lm β W (HOM.out.below BW) hl hn4) ?_
    ·have y:=show a.tmps.getD 15 undef=.slice (some ⟨g,0,none⟩) n cap from v0
     simp only [Array.getD_eq_getD_getElem?] at y
     go_simp
    ·rintro e w5 ⟨a7,cap7,L7,β7,rfl,o7,e7,b7⟩
     exact ⟨_,rfl,hK _ _ (hI.next (i:=1) (by omega) hb _ _ b7 ⟨a7,cap7,L7,β7,rfl,OMp.mono' o7 BW.size,e7⟩)⟩
  · -- 2
    have KB:=HC0.out.below BW
    obtain ⟨q0,q1,q2,q3⟩:=show W.cell? ⟨w.heap.size,0,none⟩=some (.int .i64 (ns:Nat))∧W.cell? ⟨w.heap.size,1,none⟩=some (.int .i64 x2)∧W.cell? ⟨w.heap.size,2,none⟩=some (.int .i64 x3)∧W.cell? ⟨w.heap.size,3,none⟩=some (.int .i64 x4) from ⟨KB.cell 0,KB.cell 1,KB.cell 2,KB.cell 3⟩
    refine wpoV (o:=_) rfl rfl (w':=W) (v:=.agg #[.int .i64 (ns:Nat),.int .i64 x2,.int .i64 x3,.int .i64 x4]) ?_ (hK _ _ (hI.next (i:=2) (by omega) hb _ _ (Below.refl _ _) rfl))
    have y:=hI.e4
    simp only [Array.getD_eq_getD_getElem?] at y
    go_simp
  · -- 3
    refine wpoV (o:=_) rfl rfl (w':=W.alloc (.cells in0 3)) (v:=.slice (some ⟨W.heap.size,0,none⟩) 8 8) ?_ (hK _ _ (hI.next (i:=3) (by omega) hb _ _ ((Below.refl _ _).alloc (Nat.le_refl _) _) ⟨_,rfl,Blk.new _ _ _,BW.size⟩))
    have y:=makeI8 W
    go_simp
  · -- 4
    have t3:=rdy_pre (o:=_) hi rfl ⟨3,.data⟩ (by simp) rfl
    have v3:=hI.at hlt hb 3 (by omega) t3
    obtain ⟨gk,y,ky,ly⟩:=v3
    refine wpoV (o:=_) rfl rfl (w':=W) (v:=.agg #[.int .i64 0,.slice (some ⟨gk,0,none⟩) 8 8]) ?_ (hK _ _ (hI.next (i:=4) (by omega) hb _ _ (Below.refl _ _) ⟨gk,rfl,ky,ly⟩))
    simp only [Array.getD_eq_getD_getElem?] at y
    go_simp
  · -- 5
    have KB:=HC3.out.below BW
    obtain ⟨q0,q1,q2⟩:=show W.cell? ⟨w1.heap.size,0,none⟩=some (.slice a1 n1 e1)∧W.cell? ⟨w1.heap.size,1,none⟩=some (.slice a2' n2 e2)∧W.cell? ⟨w1.heap.size,2,none⟩=some (.slice a3 n3 e3) from ⟨KB.cell 0,KB.cell 1,KB.cell 2⟩
    refine wpoV (o:=_) rfl rfl (w':=W) (v:=.agg #[.slice a1 n1 e1,.slice a2' n2 e2,.slice a3 n3 e3]) ?_ (hK _ _ (hI.next (i:=5) (by omega) hb _ _ (Below.refl _ _) rfl))
    have y:=hI.e7
    simp only [Array.getD_eq_getD_getElem?] at y
    go_simp
  · -- 6
    refine wpoV (o:=_) rfl rfl (w':=W) (v:=.pointer (some ⟨w.heap.size,0,none⟩)) ?_ (hK _ _ (hI.next (i:=6) (by omega) hb _ _ (Below.refl _ _) rfl))
    have y:=hI.e4
    simp only [Array.getD_eq_getD_getElem?] at y
    go_simp
  · -- 7
    have t6:=rdy_pre (o:=_) hi rfl ⟨6,.data⟩ (by simp) rfl
    have v6:=hI.at hlt hb 6 (by omega) t6
    have q0:W.cell? ⟨w.heap.size,0,none⟩=some (.int .i64 (ns:Nat)):=(HC0.out.below BW).cell 0
    refine wpoV (o:=_) rfl rfl (w':=W) (v:=.int .i64 (ns:Nat)) ?_ (hK _ _ (hI.next (i:=7) (by omega) hb _ _ (Below.refl _ _) rfl))
    have y:=show a.tmps.getD 21 undef=.pointer (some ⟨w.heap.size,0,none⟩) from v6
    simp only [Array.getD_eq_getD_getElem?] at y
    go_simp
  · -- 8
    have t7:=rdy_pre (o:=_) hi rfl ⟨7,.data⟩ (by simp) rfl
    have v7:=hI.at hlt hb 7 (by omega) t7
    refine wpoV (o:=_) rfl rfl (w':=W.alloc (.cells (sl0 ns) 134)) (v:=.slice (some ⟨W.heap.size,0,none⟩) ns ns) ?_ (hK _ _ (hI.next (i:=8) (by omega) hb _ _ ((Below.refl _ _).alloc (Nat.le_refl _) _) ⟨_,rfl,Blk.new _ _ _,BW.size⟩))
    have y2:=show a.tmps.getD 22 undef=.int .i64 (ns:Nat) from v7
    simp only [Array.getD_eq_getD_getElem?] at y2
    have y:=makeSl ns hn W
    go_simp
  · -- 9
    refine wpoV (o:=_) rfl rfl (w':=W.alloc (.cells #[] 136)) (v:=.slice (some ⟨W.heap.size,0,none⟩) 0 0) ?_ (hK _ _ (hI.next (i:=9) (by omega) hb _ _ ((Below.refl _ _).alloc (Nat.le_refl _) _) ⟨_,rfl,Blk.new _ _ _,BW.size⟩))
    go_simp
  · -- 10
    have t1:=rdy_pre (o:=_) hi rfl ⟨1,.data⟩ (by simp) rfl
    have v1:=hI.at hlt hb 1 (by omega) t1
    have t2:=rdy_pre (o:=_) hi rfl ⟨2,.data⟩ (by simp) rfl
    have v2:=hI.at hlt hb 2 (by omega) t2
    have t4:=rdy_pre (o:=_) hi rfl ⟨4,.data⟩ (by simp) rfl
    have v4:=hI.at hlt hb 4 (by omega) t4
    have t5:=rdy_pre (o:=_) hi rfl ⟨5,.data⟩ (by simp) rfl
    have v5:=hI.at hlt hb 5 (by omega) t5
    have t8:=rdy_pre (o:=_) hi rfl ⟨8,.data⟩ (by simp) rfl
    have v8:=hI.at hlt hb 8 (by omega) t8
    have t9:=rdy_pre (o:=_) hi rfl ⟨9,.data⟩ (by simp) rfl
    have v9:=hI.at hlt hb 9 (by omega) t9
    obtain ⟨a7,cap7,L7,β7,y1,o7,m7⟩:=v1
    have y2:=show a.tmps.getD 17 undef=.agg #[.int .i64 (ns:Nat),.int .i64 x2,.int .i64 x3,.int .i64 x4] from v2
    obtain ⟨gk,y4,ky,ly⟩:=v4
    have y5:=show a.tmps.getD 20 undef=.agg #[.slice a1 n1 e1,.slice a2' n2 e2,.slice a3 n3 e3] from v5
    obtain ⟨gl,y8,kl,ll⟩:=v8
    obtain ⟨gs,y9,ks,ls⟩:=v9
    refine wpoV (o:=_) rfl rfl (w':=W) (v:=.agg #[.slice a7 n cap7,.int .i64 (ns:Nat),.int .i64 x2,.int .i64 x3,.int .i64 x4,.int .i64 0,.slice (some ⟨gk,0,none⟩) 8 8,.slice a1 n1 e1,.slice a2' n2 e2,.slice a3 n3 e3,.int .i64 0,.int .i64 (-1),.slice (some ⟨gl,0,none⟩) ns ns,.slice (some ⟨gs,0,none⟩) 0 0,.int .i64 0]) ?_ (hK _ _ (hI.next (i:=10) (by omega) hb _ _ (Below.refl _ _) ⟨a7,cap7,L7,β7,gk,gl,gs,rfl,⟨o7,m7⟩,⟨ky,ly⟩,⟨kl,ll⟩,ks,ls⟩))
    simp only [Array.getD_eq_getD_getElem?] at y1 y2 y4 y5 y8 y9
    go_simp
  · -- 11
    have t10:=rdy_pre (o:=_) hi rfl ⟨10,.data⟩ (by simp) rfl
    have v10:=hI.at hlt hb 10 (by omega) t10
    obtain ⟨a7,cap7,L7,β7,gk,gl,gs,y,⟨o7,m7⟩,⟨ky,ly⟩,⟨kl,ll⟩,ks,ls⟩:=v10
    have hall:∀ j,j<11→listed.getD j false=true:=fun j hj=>by
     rcases (show j=0∨j=1∨j=2∨j=3∨j=4∨j=5∨j=6∨j=7∨j=8∨j=9∨j=10 by omega) with rfl | rfl | rfl | rfl | rfl | rfl | rfl | rfl | rfl | rfl | rfl
     ·exact rdy_pre (o:=_) hi rfl ⟨0,.phase⟩ (by simp) rfl
     ·exact rdy_pre (o:=_) hi rfl ⟨1,.phase⟩ (by simp) rfl
     ·exact rdy_pre (o:=_) hi rfl ⟨2,.phase⟩ (by simp) rfl
     ·exact rdy_pre (o:=_) hi rfl ⟨3,.phase⟩ (by simp) rfl
     ·exact rdy_pre (o:=_) hi rfl ⟨4,.phase⟩ (by simp) rfl
     ·exact rdy_pre (o:=_) hi rfl ⟨5,.phase⟩ (by simp) rfl
     ·exact rdy_pre (o:=_) hi rfl ⟨6,.phase⟩ (by simp) rfl
     ·exact rdy_pre (o:=_) hi rfl ⟨7,.phase⟩ (by simp) rfl
     ·exact rdy_pre (o:=_) hi rfl ⟨8,.phase⟩ (by simp) rfl
     ·exact rdy_pre (o:=_) hi rfl ⟨9,.phase⟩ (by simp) rfl
     ·exact rdy_pre (o:=_) hi rfl ⟨10,.phase⟩ (by simp) rfl
    have KB:=HC2.out.below BW
    unfold z15 at KB
    obtain ⟨c0,c1,c2,c3,c4,c5,c6,c7,c8,c9,c10,c11,c12,c13,c14⟩:=KB.mc
    have f0:=KB.frozen 0
    have f1:=KB.frozen 1
    have f2:=KB.frozen 2
    have f3:=KB.frozen 3
    have f4:=KB.frozen 4
    have f5:=KB.frozen 5
    have f6:=KB.frozen 6
    have f7:=KB.frozen 7
    have f8:=KB.frozen 8
    have f9:=KB.frozen 9
    have f10:=KB.frozen 10
    have f11:=KB.frozen 11
    have f12:=KB.frozen 12
    have f13:=KB.frozen 13
    have f14:=KB.frozen 14
    refine wpoS (o:=_) rfl rfl (w':=st15 W (w.heap.size+1+1) (.slice a7 n cap7) (.int .i64 (ns:Nat)) (.int .i64 x2) (.int .i64 x3) (.int .i64 x4) (.int .i64 0) (.slice (some ⟨gk,0,none⟩) 8 8) (.slice a1 n1 e1) (.slice a2' n2 e2) (.slice a3 n3 e3) (.int .i64 0) (.int .i64 (-1)) (.slice (some ⟨gl,0,none⟩) ns ns) (.slice (some ⟨gs,0,none⟩) 0 0) (.int .i64 0)) ?_ (hK _ _ (hI.last hb hall ⟨W,a7,cap7,L7,β7,gk,gl,gs,rfl,BW,⟨o7,m7⟩,⟨ky,ly⟩,⟨kl,ll⟩,ks,ls⟩))
    have y6:=hI.e6
    have y':=show a.tmps.getD 25 undef=_ from y
    simp only [Array.getD_eq_getD_getElem?] at y' y6
    unfold st15
    go_simp
 ·intro listed a W hI hr
  have hal:=all_lst hr (by kernel_rfl) hI.sz
  have l11:=hal 11 (by show 11<12;omega)
  obtain ⟨_,X,a7,cap7,L7,β7,gk,gl,gs,hWF,BX,⟨o7,m7⟩,⟨ky,ly⟩,⟨kl,ll⟩,ks,ls⟩:=hI.c l11
  have HWF:=hide hWF
  have d0:=hI.d
  have s0:=hI.s
  have y6:=hI.e6
  obtain ⟨tmps,defers⟩:=a
  dsimp only at d0 s0 y6
  subst d0
  have h6:tmps[6]?=some (.pointer (some ⟨w.heap.size+1+1,0,none⟩)):=by
   have hlt:6<tmps.size:=by omega
   rw [Array.getElem?_eq_getElem hlt]
   simp only [Array.getD_eq_getD_getElem?,Array.getElem?_eq_getElem hlt,Option.getD_some] at y6
   rw [y6]
  have HX:=hide (And.intro (And.intro BX (And.intro o7 m7)) (And.intro (And.intro ky ly) (And.intro (And.intro kl ll) (And.intro ks ls))))
  clear hWF BX o7 m7 ky ly kl ll ks ls hI hr hal l11
  show Exit.then _ _ _ _ _
  go_wp2
  rw [HWF.out]
  refine lm_end2 (HC2.out.below HX.out.1.1) _ _ _ _ _ _ _ _ _ _ _ _ _ _ _ _ _ h6 ?_
  obtain ⟨⟨BX,o7,m7⟩,⟨ky,ly⟩,⟨kl,ll⟩,ks,ls⟩:=HX.out
  obtain ⟨B4,O1,b2⟩:=HE.out
  obtain ⟨⟨s0',s1⟩,s2,s3⟩:=HSZ.out
  have T:=fun v0 v1 v2 v3 v4 v5 v6 v7 v8 v9 v10 v11 v12 v13 v14=>turn_st15 X (w.heap.size+1+1) v0 v1 v2 v3 v4 v5 v6 v7 v8 v9 v10 v11 v12 v13 v14
  refine ⟨a7,cap7,L7,β7,gk,a1,n1,e1,a2',n2,e2,a3,n3,e3,gl,gs,rfl,?_,?_,by omega,?_,m7,?_⟩
  ·exact ⟨in0_oi (turn_blk (T _ _ _ _ _ _ _ _ _ _ _ _ _ _ _) ky (by omega)) (by omega),(((O1.below (b2.trans (BX.mono b2.size))).kept (T _ _ _ _ _ _ _ _ _ _ _ _ _ _ _) (fun j hj s=>by have:=(O1.lt hj).1;omega)).mono (by omega)),sl0_og (turn_blk (T _ _ _ _ _ _ _ _ _ _ _ _ _ _ _) kl (by omega)) (by omega) hn⟩
  ·exact turn_blk (T _ _ _ _ _ _ _ _ _ _ _ _ _ _ _) ks (by omega)
  ·exact OMp.mono' (OMp.turn o7 (T _ _ _ _ _ _ _ _ _ _ _ _ _ _ _) (fun j hj=>by omega)) (by omega)
  ·exact below_turn (B4.trans (BX.mono B4.size)) (T _ _ _ _ _ _ _ _ _ _ _ _ _ _ _) (fun j hj=>by omega) (Nat.le_trans B4.size BX.size)
def slF (L:Lay)(b:Int):List Int:=if b=-1∨L.slots=[] then [-1] else (List.range L.slots.length).map (fun i:Nat=>(i:Int))
theorem is_one {w:World}{g:Nat}{v:Int}(hv:wfi v)(h:w.cell? ⟨g,0,none⟩=some (.int .i64 v)):IS w (some ⟨g,0,none⟩) 1 1 [v]:=by
 refine ⟨rfl,by unfold maxLen;omega,fun z hz=>?_,fun _=>⟨g,0,rfl,fun i hi=>?_⟩,Nat.le_refl _⟩
 ·simp at hz;rw [hz];exact hv
 ·obtain rfl:i=0:=by omega
  simpa using h
theorem slotsFor_one (L:Lay)(a0:Option Addr)(c0:Nat)(xs:List PB)(a2:Option Addr)(c2:Nat)(a5:Option Addr)(c5:Nat)(ts:List TB)(b:Int)(w:World)(h:LyT w L a0 c0 xs a2 c2 a5 c5 ts)(hb:b=-1∨L.slots=[]):
 Calls Tryz.prog 101 #[.agg #[.slice a0 xs.length c0,.int .i64 L.stack,.slice a2 L.slots.length c2,.int .i64 L.flash,.int .i64 L.ram,.slice a5 ts.length c5],.int .i64 b] w fun e w'=>∃ a c,e=.returned (.slice a (slF L b).length c)∧IS w' a (slF L b).length c (slF L b)∧Below w.heap.size w w':=by
 have HS:=hide (show slF L b=[-1] by unfold slF;rw [if_pos hb])
 rw [HS.out]
 show Calls Tryz.prog 101 _ w fun e w'=>∃ a c,e=.returned (.slice a 1 c)∧IS w' a 1 c [-1]∧Below w.heap.size w w'
 have HB:=hide (show Below w.heap.size w (w.alloc (.cells #[.slice a0 xs.length c0,.int .i64 L.stack,.slice a2 L.slots.length c2,.int .i64 L.flash,.int .i64 L.ram,.slice a5 ts.length c5] 36)) from (Below.refl _ _).alloc (Nat.le_refl _) _)
 clear HS
 by_cases c:b=-1
 ·subst c
  clear hb h
  generalize xs.length=n at *
  generalize L.slots.length=l at *
  generalize ts.length=k at *
  go_enter Tryz.func101,Tryz.ntmps101
  go_wp2
  go_ret
  refine ⟨_,_,rfl,is_one (by unfold wfi;omega) ?_,HB.out.alloc HB.out.size _⟩
  rw [show w.heap.size+1=(w.alloc _).heap.size from (World.size_alloc _ _).symm]
  exact (Blk.new _ _ _).cell 0
 ·have hl:L.slots.length=0:=by rw [hb.resolve_left c];rfl
  have hz:(b == -1)=false:=by simpa using c
  rw [hl]
  rw [hl] at HB
  clear hb h hl
  generalize xs.length=n at *
  generalize ts.length=k at *
  go_enter Tryz.func101,Tryz.ntmps101
  go_wp2
  go_ret
  refine ⟨_,_,rfl,is_one (by unfold wfi;omega) ?_,HB.out.alloc HB.out.size _⟩
  rw [show w.heap.size+1=(w.alloc _).heap.size from (World.size_alloc _ _).symm]
  exact (Blk.new _ _ _).cell 0
end Go.Proofs.YtngdgogjlpjjpaeGreat
