import Derived.Test.YtngdgogjlpjjpadGreatP45
import Derived.Test.YtngdgogjlpjjpadGreatP49
namespace Go.Proofs.YtngdgogjlpjjpadGreat
open Go.RowKit Classical
set_option linter.unusedVariables false
set_option linter.unusedSimpArgs false
set_option maxRecDepth 100000
theorem Blk.c2 {w:World} {b:Nat} {t:TypeId} {v0 v1 v2 v3 v4 v5 v6 v7:Value} (h:Blk w b #[v0,v1,v2,v3,v4,v5,v6,v7] t):w.cell? ⟨b,2,none⟩=some v2:=h.cell 2
theorem slF_all {ps:List PMod} {L:Lay} {m b:Int} (h:∀ t:Nat,t<(slF L b).length→(plR ps L m b ((slF L b).getD t 0)).length≤8):F2 ps L m b:=fun s hs=>by
 obtain ⟨k,hk,e⟩:=mem_getD ((slF_mem L b s).2 hs)
 rw [← e]
 exact h k hk
theorem slF_ok {L:Lay} {b:Int} {t:Nat} (h:t<(slF L b).length):sOk L b ((slF L b).getD t 0):=(slF_mem L b _).1 (getD_mem' h)
set_option maxHeartbeats 4000000 in
theorem plansFit_any (a:Option Addr) (n cap:Nat) (ms:List Md) (L:Lay) (a0:Option Addr) (c0:Nat) (xs:List PB) (a2:Option Addr) (c2:Nat) (a5:Option Addr) (c5:Nat) (ts:List TB) (w:World) (h:MSD w a n cap ms) (hL:LyT w L a0 c0 xs a2 c2 a5 c5 ts) (hk:Lok (pmS ms) L):
 Calls Tryz.prog 115 #[.slice a n cap,.agg #[.slice a0 xs.length c0,.int .i64 L.stack,.slice a2 L.slots.length c2,.int .i64 L.flash,.int .i64 L.ram,.slice a5 ts.length c5]] w fun e w'=>∃ r:Bool,e=.returned (.bool r)∧(r=true ↔ FitP (pmS ms) L)∧Below w.heap.size w w':=by
 obtain ⟨V,hV⟩:∃ V,V=w.alloc (.cells #[.slice a0 xs.length c0,.int .i64 L.stack,.slice a2 L.slots.length c2,.int .i64 L.flash,.int .i64 L.ram,.slice a5 ts.length c5] 32):=⟨_,rfl⟩
 have hB:Below w.heap.size w V:=by rw [hV];exact (Below.refl _ _).alloc (Nat.le_refl _) _
 have k0:Blk V w.heap.size #[.slice a0 xs.length c0,.int .i64 L.stack,.slice a2 L.slots.length c2,.int .i64 L.flash,.int .i64 L.ram,.slice a5 ts.length c5] 32:=by rw [hV];exact Blk.new w _ _
 have HBV:=hide hB
 have HM:=hide (h.below hB)
 have HL2:=hide (hL.below hB)
 have HV:=hide hV
 have HK:=hide k0
 have hn:=h.s.1
 have hmx:=h.s.2.1
 have hlx:=hL.s.2.1
 unfold maxLen at hmx hlx
 have HKX:=hide (show ∀ X,Below V.heap.size V X→X.cell? ⟨w.heap.size,0,none⟩=some (.slice a0 xs.length c0)∧X.cell? ⟨w.heap.size,1,none⟩=some (.int .i64 L.stack)∧X.cell? ⟨w.heap.size,2,none⟩=some (.slice a2 L.slots.length c2)∧X.cell? ⟨w.heap.size,3,none⟩=some (.int .i64 L.flash)∧X.cell? ⟨w.heap.size,4,none⟩=some (.int .i64 L.ram)∧X.cell? ⟨w.heap.size,5,none⟩=some (.slice a5 ts.length c5) from fun X hz=>(HK.out.below hz).ly6)
 have HX:=hide (show ∀ X,Below V.heap.size V X→Below w.heap.size w X from fun X hz=>HBV.out.trans (hz.mono HBV.out.size))
 have HC:=hide hk
 have HPO:=hide (show ∀ X (m b s:Int),Below V.heap.size V X→(0≤m∧m<(n:Int))→(b=-1∨(0≤b∧b<((ms.getD m.toNat zMd).bn:Int)))→sOk L b s→Calls Tryz.prog 114 #[.slice a n cap,.agg #[.slice a0 xs.length c0,.int .i64 L.stack,.slice a2 L.slots.length c2,.int .i64 L.flash,.int .i64 L.ram,.slice a5 ts.length c5],.agg #[.int .i64 m,.int .i64 b,.int .i64 0],.int .i64 s] X (fun e w'=>∃ A k c,e=.returned (.tuple #[.slice A k c,.bool (decide ((plR (pmS ms) L m b s).length≤8))])∧Below X.heap.size X w'∧Below V.heap.size V w') from fun X m b s hz hm hb hs=>(planOf_any a n cap ms L a0 c0 xs a2 c2 a5 c5 ts m b 0 s X (HM.out.below hz) (HL2.out.below hz) hk ((pc_iff HM.out m b).2 ⟨hm,hb⟩) hs.fit).mono fun e w' ⟨A,k,c,he,_,hbb⟩=>⟨A,k,c,he,hbb,hz.trans (hbb.mono hz.size)⟩)
 have HSF:=hide (show ∀ X (b:Int),Below V.heap.size V X→Calls Tryz.prog 113 #[.agg #[.slice a0 xs.length c0,.int .i64 L.stack,.slice a2 L.slots.length c2,.int .i64 L.flash,.int .i64 L.ram,.slice a5 ts.length c5],.int .i64 b] X (fun e w'=>∃ ra rn rc,e=.returned (.slice ra rn rc)∧IS w' ra rn rc (slF L b)∧Below X.heap.size X w'∧Below V.heap.size V w') from fun X b hz=>(slotsFor_any L a0 c0 xs a2 c2 a5 c5 ts b X (HL2.out.below hz) (lok_slots hk)).mono fun e w' ⟨ra,rn,rc,he,hi,hbb⟩=>⟨ra,rn,rc,he,hi,hbb,hz.trans (hbb.mono hz.size)⟩)
 clear hV k0 h hL hB hk
 go_enter Tryz.func115,Tryz.ntmps115
 go_wp2_with (rw [← HV.out])
 clear HV
 go_loopw [14] (fun i wr=>∃ m:Nat,m≤n∧i=.int .i64 m∧(∀ m':Nat,m'<m→∀ b:Int,(b=-1∨(0≤b∧b<((ms.getD m' zMd).bn:Int)))→F2 (pmS ms) L m' b)∧Below V.heap.size V wr) (fun i _=>n - (intOf i).toNat)
 case atStart=>exact ⟨0,Nat.zero_le _,rfl,fun m' hm'=>absurd hm' (Nat.not_lt_zero _),Below.refl _ _⟩
 case round=>
  obtain ⟨m,hm,rfl,hF,hB⟩:=hrel
  have HF:=hide hF
  have HB:=hide hB
  clear hF hB
  by_cases hlt:m<n
  ·have hlt':(m:Int)<(n:Int):=by omega
   obtain ⟨gm,om,rfl,v0,v1,v2,v3,v4,v5,v6,v7⟩:=HM.out.s.at m hlt
   have hbx:(ms.getD m zMd).bn≤9223372036854775806:=by
    have h1:=(lok_kn HC.out).v m (by rw [pmS_len,hn];exact hlt)
    rw [pmS_at (by rw [hn];exact hlt)] at h1
    have h2:=(vld_en h1).2.2.2.1
    have h3:=(HM.out.d m hlt).b.1
    simp only [Md.pm,List.length_map] at h2
    omega
   obtain ⟨M,hM⟩:∃ M,M=ms.getD m zMd:=⟨_,rfl⟩
   have HME:=hide hM
   rw [← hM] at v0 v1 v2 v3 v4 v5 v6 v7 hbx
   clear hM
   obtain ⟨bn,hbn⟩:∃ bn,bn=M.bn:=⟨_,rfl⟩
   have HBN:=hide (show bn=(ms.getD m zMd).bn by rw [hbn,HME.out])
   rw [← hbn] at v2 hbx
   clear hbn
   have u0:=cell_below HB.out v0
   have u1:=cell_below HB.out v1
   have u2:=cell_below HB.out v2
   have u3:=cell_below HB.out v3
   have u4:=cell_below HB.out v4
   have u5:=cell_below HB.out v5
   have u6:=cell_below HB.out v6
   have u7:=cell_below HB.out v7
   clear v0 v1 v2 v3 v4 v5 v6 v7
   generalize wr=wo at *
   obtain ⟨V2,hV2⟩:∃ V2,V2=wo.alloc (.cells #[.string M.nm,.slice M.ta M.tn M.tc,.slice M.ba bn M.bc,.slice M.da M.dn M.dc,.int .i64 M.bss,.slice M.ra M.rn M.rc,.slice M.ia M.im M.ic,.slice M.ea M.en M.ec] 49):=⟨_,rfl⟩
   have HBV2:=hide (show Below V.heap.size V V2 by rw [hV2];exact HB.out.alloc HB.out.size _)
   have HKM:=hide (show Blk V2 wo.heap.size #[.string M.nm,.slice M.ta M.tn M.tc,.slice M.ba bn M.bc,.slice M.da M.dn M.dc,.int .i64 M.bss,.slice M.ra M.rn M.rc,.slice M.ia M.im M.ic,.slice M.ea M.en M.ec] 49 by rw [hV2];exact Blk.new _ _ _)
   have HV2:=hide hV2
   clear hV2
   go_wp2_with (rw [← HV2.out])
   clear u0 u1 u2 u3 u4 u5 u6 u7
   go_loopw [7] (fun i wr=>∃ q:Nat,q≤bn+1∧i=.int .i64 ((q:Int) - 1)∧(∀ b:Int,-1≤b→b<(q:Int) - 1→F2 (pmS ms) L m b)∧Blk wr wo.heap.size #[.string M.nm,.slice M.ta M.tn M.tc,.slice M.ba bn M.bc,.slice M.da M.dn M.dc,.int .i64 M.bss,.slice M.ra M.rn M.rc,.slice M.ia M.im M.ic,.slice M.ea M.en M.ec] 49∧Below V.heap.size V wr) (fun i _=>bn+1 - (intOf i+1).toNat)
   case atStart=>exact ⟨0,Nat.zero_le _,rfl,fun b h1 h2=>by omega,HKM.out,HBV2.out⟩
   case round=>
    obtain ⟨q,hq,rfl,hF2,hkm,hB3⟩:=hrel
    have HF2:=hide hF2
    have HK3:=hide hkm
    have HB3:=hide hB3
    have y2:=hkm.c2
    clear hF2 hB3 hkm
    by_cases hq2:q<bn+1
    ·have hq2':(q:Int) - 1<(bn:Int):=by omega
     obtain ⟨b,hb⟩:∃ b:Int,b=(q:Int) - 1:=⟨_,rfl⟩
     rw [← hb] at hq2' ⊢
     have hb0:-1≤b:=by omega
     have HBB:=hide hb
     have HBQ:=hide (show b=-1∨(0≤b∧b<((ms.getD ((m:Int)).toNat zMd).bn:Int)) from by
      rw [Int.toNat_natCast,← HBN.out]
      omega)
     clear hb
     generalize wr=wp at *
     have HS1:=hide (HSF.out wp b HB3.out)
     obtain ⟨z0,z1,z2,z3,z4,z5⟩:=HKX.out _ HB3.out
     go_wp2_with fail
     refine HS1.out.mono ?_
     rintro e X4 ⟨ra,rn,rc,rfl,hI,hbx4,hb4⟩
     have HI4:=hide hI
     have HK4:=hide (HK3.out.below hbx4)
     have HB4:=hide hb4
     have hrx:=hI.2.1
     unfold maxLen at hrx
     clear hI hbx4 hb4 HS1 z0 z1 z2 z3 z4 z5 y2
     go_wp2_with fail
     go_loopw [30] (fun i wr=>∃ t:Nat,t≤rn∧i=.int .i64 t∧(∀ s':Nat,s'<t→(plR (pmS ms) L m b ((slF L b).getD s' 0)).length≤8)∧IS wr ra rn rc (slF L b)∧Blk wr wo.heap.size #[.string M.nm,.slice M.ta M.tn M.tc,.slice M.ba bn M.bc,.slice M.da M.dn M.dc,.int .i64 M.bss,.slice M.ra M.rn M.rc,.slice M.ia M.im M.ic,.slice M.ea M.en M.ec] 49∧Below V.heap.size V wr) (fun i _=>rn - (intOf i).toNat)
     case atStart=>exact ⟨0,Nat.zero_le _,rfl,fun s' hs'=>absurd hs' (Nat.not_lt_zero _),HI4.out,HK4.out,HB4.out⟩
     case round=>
      obtain ⟨t,ht,rfl,hG,hI5,hk5,hB5⟩:=hrel
      have HG:=hide hG
      have HI5:=hide hI5
      have HK5:=hide hk5
      have HB5:=hide hB5
      clear hG hk5 hB5
      by_cases ht2:t<rn
      ·have ht2':(t:Int)<(rn:Int):=by omega
       obtain ⟨rb,ro,rfl,hcc⟩:=hI5.2.2.2.1 (by omega)
       have r0:=hcc t ht2
       have HSO:=hide (slF_ok (L:=L) (b:=b) (t:=t) (by rw [hI5.1];exact ht2))
       have HP3:=hide (HPO.out wr m b ((slF L b).getD t 0) HB5.out (by omega) HBQ.out HSO.out)
       obtain ⟨z0,z1,z2,z3,z4,z5⟩:=HKX.out _ HB5.out
       obtain ⟨sv,hsv⟩:∃ sv,sv=(slF L b).getD t 0:=⟨_,rfl⟩
       rw [← hsv] at r0 HP3 HSO
       have HSV:=hide hsv
       clear hcc hI5 hsv
       go_wp2_with fail
       refine HP3.out.mono ?_
       rintro e X6 ⟨A3,k3,c3',rfl,hbx6,hb6⟩
       have HB6:=hide (And.intro hbx6 hb6)
       clear hbx6 hb6 HP3 z0 z1 z2 z3 z4 z5 r0
       by_cases h83:(plR (pmS ms) L m b sv).length≤8
       ·rw [decide_eq_true h83]
        have HN:=hide (show ∀ s':Nat,s'<t+1→(plR (pmS ms) L m b ((slF L b).getD s' 0)).length≤8 from fun s' hs'=>by
         by_cases e:s'=t
         ·rw [e,← HSV.out];exact h83
         ·exact HG.out s' (by omega))
        clear h83
        go_wp2
        go_roundw
        case rel=>exact ⟨t+1,by omega,by go_num,HN.out,HI5.out.below HB6.out.1,HK5.out.below HB6.out.1,HB6.out.2⟩
        case measure=>simp [intOf];omega
       ·rw [decide_eq_false h83]
        have HNO:=hide (fit_no HM.out (m:=(m:Int)) (b:=b) (s:=sv) (by omega) HBQ.out HSO.out h83)
        clear h83
        go_wp2
        go_ret
        exact ⟨false,rfl,by simp [HNO.out],HX.out _ HB6.out.2⟩
      ·have HN:=hide (show ∀ b':Int,-1≤b'→b'<((q+1:Nat):Int) - 1→F2 (pmS ms) L m b' from fun b' h1 h2=>by
        by_cases e:b'=b
        ·rw [e]
         exact slF_all (fun t' ht'=>HG.out t' (by rw [HI5.out.1] at ht';omega))
        ·exact HF2.out b' h1 (by have:=HBB.out;omega))
       have HBE:=hide (show b+1=((q+1:Nat):Int) - 1 by have:=HBB.out;omega)
       clear hI5
       go_wp2
       go_roundw
       case rel=>exact ⟨q+1,by omega,by rw [HBE.out],HN.out,HK5.out,HB5.out⟩
       case measure=>have:=HBB.out;simp [intOf];omega
    ·have HN:=hide (show ∀ m':Nat,m'<m+1→∀ b:Int,(b=-1∨(0≤b∧b<((ms.getD m' zMd).bn:Int)))→F2 (pmS ms) L m' b from fun m' hm' b hb=>by
      by_cases e:m'=m
      ·subst e
       rw [← HBN.out] at hb
       exact HF2.out b (by omega) (by omega)
      ·exact HF.out m' (by omega) b hb)
     have hq3:(q:Int) - 1=(bn:Int):=by omega
     rw [hq3]
     go_wp2
     go_roundw
     case rel=>exact ⟨m+1,by omega,by go_num,HN.out,HB3.out⟩
     case measure=>simp [intOf];omega
  ·have HN:=hide (fit_all HM.out HC.out (fun m' hm'=>HF.out m' (by omega)))
   go_wp2
   go_ret
   exact ⟨true,rfl,by simp [HN.out],HX.out _ HB.out⟩
set_option maxHeartbeats 4000000 in
theorem iFits_any (a:Option Addr) (n cap:Nat) (ms:List Md) (L:Lay) (a0:Option Addr) (c0:Nat) (xs:List PB) (a2:Option Addr) (c2:Nat) (a5:Option Addr) (c5:Nat) (ts:List TB) (w:World) (h:MSD w a n cap ms) (hL:LyT w L a0 c0 xs a2 c2 a5 c5 ts):
 Calls Tryz.prog 36 #[.slice a n cap,.agg #[.slice a0 xs.length c0,.int .i64 L.stack,.slice a2 L.slots.length c2,.int .i64 L.flash,.int .i64 L.ram,.slice a5 ts.length c5]] w fun e w'=>∃ r:Bool,e=.returned (.bool r)∧(r=true ↔ FitP (pmS ms) L)∧Below w.heap.size w w':=by
 obtain ⟨V,hV⟩:∃ V,V=w.alloc (.cells #[.slice a0 xs.length c0,.int .i64 L.stack,.slice a2 L.slots.length c2,.int .i64 L.flash,.int .i64 L.ram,.slice a5 ts.length c5] 32):=⟨_,rfl⟩
 have hB:Below w.heap.size w V:=by rw [hV];exact (Below.refl _ _).alloc (Nat.le_refl _) _
 have k0:Blk V w.heap.size #[.slice a0 xs.length c0,.int .i64 L.stack,.slice a2 L.slots.length c2,.int .i64 L.flash,.int .i64 L.ram,.slice a5 ts.length c5] 32:=by rw [hV];exact Blk.new w _ _
 have HBV:=hide hB
 have HM:=hide (h.below hB)
 have HL2:=hide (hL.below hB)
 have HV:=hide hV
 have HK:=hide k0
 have hn:=h.s.1
 have hmx:=h.s.2.1
 have hlx:=hL.s.2.1
 unfold maxLen at hmx hlx
 have HKX:=hide (show ∀ X,Below V.heap.size V X→X.cell? ⟨w.heap.size,0,none⟩=some (.slice a0 xs.length c0)∧X.cell? ⟨w.heap.size,1,none⟩=some (.int .i64 L.stack)∧X.cell? ⟨w.heap.size,2,none⟩=some (.slice a2 L.slots.length c2)∧X.cell? ⟨w.heap.size,3,none⟩=some (.int .i64 L.flash)∧X.cell? ⟨w.heap.size,4,none⟩=some (.int .i64 L.ram)∧X.cell? ⟨w.heap.size,5,none⟩=some (.slice a5 ts.length c5) from fun X hz=>(HK.out.below hz).ly6)
 have HX:=hide (show ∀ X,Below V.heap.size V X→Below w.heap.size w X from fun X hz=>HBV.out.trans (hz.mono HBV.out.size))
 have HR:=hide (show Calls Tryz.prog 66 #[.slice a n cap,.agg #[.slice a0 xs.length c0,.int .i64 L.stack,.slice a2 L.slots.length c2,.int .i64 L.flash,.int .i64 L.ram,.slice a5 ts.length c5]] V (fun e w'=>e=.returned (.bool (decide (Lok (pmS ms) L)))∧Below V.heap.size V w') from layoutOk_any a n cap ms L a0 c0 xs a2 c2 a5 c5 ts V HM.out HL2.out)
 clear hV k0 h hL hB
 obtain ⟨z0,z1,z2,z3,z4,z5⟩:=HKX.out _ (Below.refl _ _)
 by_cases c1:Lok (pmS ms) L
 ·rw [decide_eq_true c1] at HR
  have HPF:=hide (fun (X:World) (hz:Below V.heap.size V X)=>plansFit_any a n cap ms L a0 c0 xs a2 c2 a5 c5 ts X (HM.out.below hz) (HL2.out.below hz) c1)
  clear c1
  go_enter Tryz.func36,Tryz.ntmps36
  go_wp2_with (rw [← HV.out])
  refine HR.out.mono ?_
  rintro e X1 ⟨rfl,hb1⟩
  have HB1:=hide hb1
  clear hb1 z0 z1 z2 z3 z4 z5
  obtain ⟨z0,z1,z2,z3,z4,z5⟩:=HKX.out _ HB1.out
  go_wp2_with fail
  refine (HPF.out _ HB1.out).mono ?_
  rintro e X2 ⟨r,rfl,hr,hb2⟩
  have HB2:=hide (And.intro hr (HB1.out.trans (hb2.mono HB1.out.size)))
  clear hr hb2
  go_wp2
  go_ret
  exact ⟨r,rfl,HB2.out.1,HX.out _ HB2.out.2⟩
 ·rw [decide_eq_false c1] at HR
  have HC:=hide c1
  clear c1
  go_enter Tryz.func36,Tryz.ntmps36
  go_wp2_with (rw [← HV.out])
  refine HR.out.mono ?_
  rintro e X1 ⟨rfl,hb1⟩
  have HB1:=hide hb1
  clear hb1
  go_wp2
  go_ret
  exact ⟨false,rfl,by simp [FitP,HC.out],HX.out _ HB1.out⟩
end Go.Proofs.YtngdgogjlpjjpadGreat
