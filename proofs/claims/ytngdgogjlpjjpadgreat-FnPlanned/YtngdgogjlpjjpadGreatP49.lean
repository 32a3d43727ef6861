import Derived.Test.YtngdgogjlpjjpadGreatP26
import Derived.Test.YtngdgogjlpjjpadGreatP30
import Derived.Test.YtngdgogjlpjjpadGreatP44
namespace Go.Proofs.YtngdgogjlpjjpadGreat
open Go.RowKit Classical
set_option linter.unusedVariables false
set_option linter.unusedSimpArgs false
set_option maxRecDepth 100000
theorem pc_iff {w:World} {a:Option Addr} {n cap:Nat} {ms:List Md} (h:MSD w a n cap ms) (m b:Int):0≤pcq (pmS ms) m b ↔ (0≤m∧m<(n:Int))∧(b=-1∨(0≤b∧b<((ms.getD m.toNat zMd).bn:Int))):=by
 have hn:=h.s.1
 rw [← pcm_pcq h]
 unfold pcm
 rw [hn]
 by_cases c:0≤m∧m<(n:Int)
 ·rw [if_pos c]
  unfold pcn
  by_cases c1:b=-1
  ·rw [if_pos c1];exact ⟨fun _=>⟨c,.inl c1⟩,fun _=>by omega⟩
  ·rw [if_neg c1]
   by_cases c2:0≤b∧b<((ms.getD m.toNat zMd).bn:Int)
   ·rw [if_pos c2];exact ⟨fun _=>⟨c,.inr c2⟩,fun _=>by omega⟩
   ·rw [if_neg c2];exact ⟨fun h=>absurd h (by decide),fun h=>absurd h.2 (fun h=>h.elim c1 c2)⟩
 ·rw [if_neg c];exact ⟨fun h=>absurd h (by decide),fun h=>absurd h.1 c⟩
theorem sOk_t (L:Lay):sOk L (-1) (-1):=by unfold sOk;rw [if_pos (.inl rfl)]
theorem sOk_ti {L:Lay} {s:Int} (h:sOk L (-1) s):s=-1:=by unfold sOk at h;rwa [if_pos (.inl rfl)] at h
theorem sOk_e {L:Lay} (b:Int) (h:L.slots=[]):sOk L b (-1):=by unfold sOk;rw [if_pos (.inr h)]
theorem sOk_ei {L:Lay} {b s:Int} (h:L.slots=[]) (hs:sOk L b s):s=-1:=by unfold sOk at hs;rwa [if_pos (.inr h)] at hs
theorem sOk_s {L:Lay} {b s:Int} (hb:b≠-1) (h:¬ L.slots=[]):sOk L b s ↔ 0≤s∧s<(L.slots.length:Int):=by unfold sOk;rw [if_neg (fun c=>c.elim hb h)]
def F2 (ps:List PMod) (L:Lay) (m b:Int):Prop:=∀ s:Int,sOk L b s→(plR ps L m b s).length≤8
theorem fit_all {w:World} {a:Option Addr} {n cap:Nat} {ms:List Md} {L:Lay} (h:MSD w a n cap ms) (hk:Lok (pmS ms) L) (hf:∀ m:Nat,m<n→∀ b:Int,(b=-1∨(0≤b∧b<((ms.getD m zMd).bn:Int)))→F2 (pmS ms) L m b):FitP (pmS ms) L:=by
 refine ⟨hk,fun m b s hp hs=>?_⟩
 obtain ⟨⟨h1,h2⟩,h3⟩:=(pc_iff h m b).1 hp
 have:=hf m.toNat (by omega) b h3 s hs
 rwa [Int.toNat_of_nonneg h1] at this
theorem fit_no {w:World} {a:Option Addr} {n cap:Nat} {ms:List Md} {L:Lay} (h:MSD w a n cap ms) {m b s:Int} (hm:0≤m∧m<(n:Int)) (hb:b=-1∨(0≤b∧b<((ms.getD m.toNat zMd).bn:Int))) (hs:sOk L b s) (hl:¬ (plR (pmS ms) L m b s).length≤8):¬ FitP (pmS ms) L:=fun hf=>hl (hf.2 m b s ((pc_iff h m b).2 ⟨hm,hb⟩) hs)
set_option maxHeartbeats 4000000 in
theorem sFits_any (a:Option Addr) (n cap:Nat) (ms:List Md) (L:Lay) (a0:Option Addr) (c0:Nat) (xs:List PB) (a2:Option Addr) (c2:Nat) (a5:Option Addr) (c5:Nat) (ts:List TB) (w:World) (h:MSD w a n cap ms) (hL:LyT w L a0 c0 xs a2 c2 a5 c5 ts):
 Calls Tryz.prog 37 #[.slice a n cap,.agg #[.slice a0 xs.length c0,.int .i64 L.stack,.slice a2 L.slots.length c2,.int .i64 L.flash,.int .i64 L.ram,.slice a5 ts.length c5]] w fun e w'=>∃ r:Bool,e=.returned (.bool r)∧(r=true ↔ FitP (pmS ms) L)∧Below w.heap.size w w':=by
 obtain ⟨V,hV⟩:∃ V,V=w.alloc (.cells #[.slice a0 xs.length c0,.int .i64 L.stack,.slice a2 L.slots.length c2,.int .i64 L.flash,.int .i64 L.ram,.slice a5 ts.length c5] 32):=⟨_,rfl⟩
 have hB:Below w.heap.size w V:=by rw [hV];exact (Below.refl _ _).alloc (Nat.le_refl _) _
 have k0:Blk V w.heap.size #[.slice a0 xs.length c0,.int .i64 L.stack,.slice a2 L.slots.length c2,.int .i64 L.flash,.int .i64 L.ram,.slice a5 ts.length c5] 32:=by rw [hV];exact Blk.new w _ _
 have HBV:=hide hB
 have HM:=hide (h.below hB)
 have HL2:=hide (hL.below hB)
 have HV:=hide hV
 have HK:=hide k0
 have hn:=h.s.1
 have hmx:=h.s.2.1
 have hlx:=hL.s.2.1
 unfold maxLen at hmx hlx
 have HKX:=hide (show ∀ X,Below V.heap.size V X→X.cell? ⟨w.heap.size,0,none⟩=some (.slice a0 xs.length c0)∧X.cell? ⟨w.heap.size,1,none⟩=some (.int .i64 L.stack)∧X.cell? ⟨w.heap.size,2,none⟩=some (.slice a2 L.slots.length c2)∧X.cell? ⟨w.heap.size,3,none⟩=some (.int .i64 L.flash)∧X.cell? ⟨w.heap.size,4,none⟩=some (.int .i64 L.ram)∧X.cell? ⟨w.heap.size,5,none⟩=some (.slice a5 ts.length c5) from fun X hz=>(HK.out.below hz).ly6)
 have HX:=hide (show ∀ X,Below V.heap.size V X→Below w.heap.size w X from fun X hz=>HBV.out.trans (hz.mono HBV.out.size))
 have HR:=hide (show Calls Tryz.prog 69 #[.slice a n cap,.agg #[.slice a0 xs.length c0,.int .i64 L.stack,.slice a2 L.slots.length c2,.int .i64 L.flash,.int .i64 L.ram,.slice a5 ts.length c5]] V (fun e w'=>e=.returned (.bool (decide (Lok (pmS ms) L)))∧Below V.heap.size V w') from l5Real_any a n cap ms L a0 c0 xs a2 c2 a5 c5 ts V HM.out HL2.out)
 clear hV k0 h hL hB
 obtain ⟨z0,z1,z2,z3,z4,z5⟩:=HKX.out _ (Below.refl _ _)
 by_cases c1:Lok (pmS ms) L
 ·rw [decide_eq_true c1] at HR
  have HC:=hide c1
  have HPL:=hide (show ∀ X (m b s:Int),Below V.heap.size V X→(0≤m∧m<(n:Int))→(b=-1∨(0≤b∧b<((ms.getD m.toNat zMd).bn:Int)))→sOk L b s→Calls Tryz.prog 110 #[.slice a n cap,.agg #[.slice a0 xs.length c0,.int .i64 L.stack,.slice a2 L.slots.length c2,.int .i64 L.flash,.int .i64 L.ram,.slice a5 ts.length c5],.agg #[.int .i64 m,.int .i64 b,.int .i64 0],.int .i64 s] X (fun e w'=>∃ A k c,e=.returned (.slice A k c)∧k=(plR (pmS ms) L m b s).length∧Below X.heap.size X w'∧Below V.heap.size V w') from fun X m b s hz hm hb hs=>(l6Plan_any a n cap ms L a0 c0 xs a2 c2 a5 c5 ts m b 0 s X (HM.out.below hz) (HL2.out.below hz) c1 ((pc_iff HM.out m b).2 ⟨hm,hb⟩) hs.fit).mono fun e w' ⟨A,k,c,he,ho,hbb⟩=>⟨A,k,c,he,(or_rs ho).1.symm,hbb,hz.trans (hbb.mono hz.size)⟩)
  clear c1
  obtain ⟨l,hl⟩:∃ l,l=L.slots.length:=⟨_,rfl⟩
  rw [← hl] at HR HPL HKX HV z2 hlx ⊢
  have HLE:=hide hl
  have HSE:=hide (show L.slots=[] ↔ l=0 by rw [hl];exact List.length_eq_zero_iff.symm)
  clear hl
  go_enter Tryz.func37,Tryz.ntmps37
  go_wp2_with (rw [← HV.out])
  refine HR.out.mono ?_
  rintro e X1 ⟨rfl,hb1⟩
  have HB1:=hide hb1
  clear hb1 z0 z1 z2 z3 z4 z5 HR HV
  go_wp2_with fail
  go_loopw [5] (fun i wr=>∃ m:Nat,m≤n∧i=.int .i64 m∧(∀ m':Nat,m'<m→∀ b:Int,(b=-1∨(0≤b∧b<((ms.getD m' zMd).bn:Int)))→F2 (pmS ms) L m' b)∧Below V.heap.size V wr) (fun i _=>n - (intOf i).toNat)
  case atStart=>exact ⟨0,Nat.zero_le _,rfl,fun m' hm'=>absurd hm' (Nat.not_lt_zero _),HB1.out⟩
  case round=>
   obtain ⟨m,hm,rfl,hF,hB⟩:=hrel
   have HF:=hide hF
   have HB:=hide hB
   clear hF hB HB1
   by_cases hlt:m<n
   ·have hlt':(m:Int)<(n:Int):=by omega
    obtain ⟨gm,om,rfl,_,_,v2,_,_,_,_,_⟩:=HM.out.s.at m hlt
    have hbx:(ms.getD m zMd).bn≤9223372036854775807:=by have:=(HM.out.s.2.2.2.1 m hlt).b.2.1;unfold maxLen at this;omega
    obtain ⟨bn,hbn⟩:∃ bn,bn=(ms.getD m zMd).bn:=⟨_,rfl⟩
    have HBN:=hide hbn
    rw [← hbn] at v2 hbx
    clear hbn
    have HP1:=hide (HPL.out wr m (-1) (-1) HB.out (by omega) (.inl rfl) (sOk_t L))
    obtain ⟨z0,z1,z2,z3,z4,z5⟩:=HKX.out _ HB.out
    go_wp2_with fail
    refine HP1.out.mono ?_
    rintro e X2 ⟨A,k,c,rfl,hk,_,hb2⟩
    have HK2:=hide hk
    have HB2:=hide hb2
    clear hk hb2 HP1 z0 z1 z2 z3 z4 z5
    by_cases h8:k≤8
    ·have h8':(k:Int)≤8:=by omega
     have HT:=hide (show F2 (pmS ms) L m (-1) from fun s hs=>by rw [sOk_ti hs,← HK2.out];exact h8)
     go_wp2_with fail
     generalize wr=wo at *
     go_loopw [6] (fun i wr=>∃ q:Nat,q≤bn∧i=.int .i64 q∧(∀ b:Int,(b=-1∨(0≤b∧b<(q:Int)))→F2 (pmS ms) L m b)∧Below V.heap.size V wr) (fun i _=>bn - (intOf i).toNat)
     case atStart=>exact ⟨0,Nat.zero_le _,rfl,fun b hb=>by rcases hb with rfl | hb;exact HT.out;omega,HB2.out⟩
     case round=>
      obtain ⟨q,hq,rfl,hF2,hB3⟩:=hrel
      have HF2:=hide hF2
      have HB3:=hide hB3
      clear hF2 hB3
      have v3:=cell_below HB3.out v2
      by_cases hq2:q<bn
      ·have hq2':(q:Int)<(bn:Int):=by omega
       generalize wr=wp at *
       have HQ:=hide (show F2 (pmS ms) L m (q:Int)→∀ b:Int,(b=-1∨(0≤b∧b<((q+1:Nat):Int)))→F2 (pmS ms) L m b from fun h b hb=>by
        by_cases e:b=(q:Int)
        ·rw [e];exact h
        ·exact HF2.out b (by omega))
       obtain ⟨V3,hV3⟩:∃ V3,V3=wp.alloc (.cells #[.int .i64 m,.int .i64 q,.int .i64 0] 72):=⟨_,rfl⟩
       have bV3:Below V.heap.size V V3:=by rw [hV3];exact HB3.out.alloc HB3.out.size _
       have kT:Blk V3 wp.heap.size #[.int .i64 m,.int .i64 q,.int .i64 0] 72:=by rw [hV3];exact Blk.new _ _ _
       have HV3:=hide hV3
       have HBV3:=hide bV3
       have HKT:=hide kT
       have v4:=cell_below HBV3.out v2
       clear hV3 bV3 kT
       obtain ⟨z0,z1,z2,z3,z4,z5⟩:=HKX.out _ HBV3.out
       obtain ⟨y0,y1,y2⟩:=HKT.out.tg3
       have HBQ:=hide (show (q:Int)=-1∨(0≤(q:Int)∧(q:Int)<((ms.getD ((m:Int)).toNat zMd).bn:Int)) from .inr ⟨by omega,by rw [Int.toNat_natCast,← HBN.out];exact hq2'⟩)
       by_cases hl0:l=0
       ·have HSL:=hide (HSE.out.2 hl0)
        have HP2:=hide (HPL.out V3 m q (-1) HBV3.out (by omega) HBQ.out (sOk_e _ HSL.out))
        subst hl0
        go_wp2_with (rw [← HV3.out])
        refine HP2.out.mono ?_
        rintro e X4 ⟨A2,k2,c2',rfl,hk2,_,hb4⟩
        have HK4:=hide hk2
        have HB4:=hide hb4
        clear hk2 hb4 HP2 z0 z1 z2 z3 z4 z5 y0 y1 y2
        by_cases h82:k2≤8
        ·have h82':(k2:Int)≤8:=by omega
         have HN:=hide (HQ.out (fun s hs=>by rw [sOk_ei HSL.out hs,← HK4.out];exact h82))
         go_wp2_with fail
         go_loopw [8] (fun i wr=>i=.int .i64 0∧Below V.heap.size V wr) (fun _ _=>0)
         case atStart=>exact ⟨rfl,HB4.out⟩
         case round=>
          obtain ⟨rfl,hB5⟩:=hrel
          have HB5:=hide hB5
          obtain ⟨z0,z1,z2,z3,z4,z5⟩:=HKX.out _ HB5.out
          clear hB5
          go_wp2
          go_roundw
          case rel=>exact ⟨q+1,by omega,by go_num,HN.out,HB5.out⟩
          case measure=>simp [intOf];omega
        ·have h82':(8:Int)<(k2:Int):=by omega
         have HNO:=hide (fit_no HM.out (m:=(m:Int)) (b:=(q:Int)) (s:=-1) (by omega) HBQ.out (sOk_e _ HSL.out) (by rw [← HK4.out];exact h82))
         go_wp2
         go_ret
         exact ⟨false,rfl,by simp [HNO.out],HX.out _ HB4.out⟩
       ·have hl0':((l:Int) == 0)=false:=by simpa using hl0
        have HSK:=hide (show ∀ s:Int,sOk L (q:Int) s ↔ 0≤s∧s<(l:Int) from fun s=>by rw [HLE.out];exact sOk_s (by omega) (fun e=>hl0 (HSE.out.1 e)))
        go_wp2_with (rw [← HV3.out])
        clear z0 z1 z2 z3 z4 z5 y0 y1 y2
        go_loopw [8] (fun i wr=>∃ t:Nat,t≤l∧i=.int .i64 t∧(∀ s':Nat,s'<t→(plR (pmS ms) L m q s').length≤8)∧Blk wr wp.heap.size #[.int .i64 m,.int .i64 q,.int .i64 0] 72∧Below V.heap.size V wr) (fun i _=>l - (intOf i).toNat)
        case atStart=>exact ⟨0,Nat.zero_le _,rfl,fun s' hs'=>absurd hs' (Nat.not_lt_zero _),HKT.out,HBV3.out⟩
        case round=>
         obtain ⟨t,ht,rfl,hG,kt5,hB5⟩:=hrel
         have HG:=hide hG
         have HK5:=hide kt5
         have HB5:=hide hB5
         clear hG kt5 hB5
         obtain ⟨z0,z1,z2,z3,z4,z5⟩:=HKX.out _ HB5.out
         obtain ⟨y0,y1,y2⟩:=HK5.out.tg3
         by_cases ht2:t<l
         ·have ht2':(t:Int)<(l:Int):=by omega
          have HP3:=hide (HPL.out wr m q t HB5.out (by omega) HBQ.out ((HSK.out _).2 ⟨by omega,ht2'⟩))
          go_wp2_with fail
          refine HP3.out.mono ?_
          rintro e X6 ⟨A3,k3,c3',rfl,hk3,hbx6,hb6⟩
          have HK6:=hide hk3
          have HB6:=hide (And.intro hbx6 hb6)
          clear hk3 hbx6 hb6 HP3 z0 z1 z2 z3 z4 z5 y0 y1 y2
          by_cases h83:k3≤8
          ·have h83':(k3:Int)≤8:=by omega
           have HN:=hide (show ∀ s':Nat,s'<t+1→(plR (pmS ms) L m q s').length≤8 from fun s' hs'=>by
            by_cases e:s'=t
            ·rw [e,← HK6.out];exact h83
            ·exact HG.out s' (by omega))
           go_wp2
           go_roundw
           case rel=>exact ⟨t+1,by omega,by go_num,HN.out,HK5.out.below HB6.out.1,HB6.out.2⟩
           case measure=>simp [intOf];omega
          ·have h83':(8:Int)<(k3:Int):=by omega
           have HNO:=hide (fit_no HM.out (m:=(m:Int)) (b:=(q:Int)) (s:=(t:Int)) (by omega) HBQ.out ((HSK.out _).2 ⟨by omega,ht2'⟩) (by rw [← HK6.out];exact h83))
           go_wp2
           go_ret
           exact ⟨false,rfl,by simp [HNO.out],HX.out _ HB6.out.2⟩
         ·have HN:=hide (HQ.out (fun s hs=>by
           have h1:=(HSK.out s).1 hs
           have h2:=HG.out s.toNat (by omega)
           rwa [Int.toNat_of_nonneg h1.1] at h2))
          go_wp2
          go_roundw
          case rel=>exact ⟨q+1,by omega,by go_num,HN.out,HB5.out⟩
          case measure=>simp [intOf];omega
      ·have HN:=hide (show ∀ m':Nat,m'<m+1→∀ b:Int,(b=-1∨(0≤b∧b<((ms.getD m' zMd).bn:Int)))→F2 (pmS ms) L m' b from fun m' hm' b hb=>by
        by_cases e:m'=m
        ·subst e
         rw [← HBN.out] at hb
         exact HF2.out b (by omega)
        ·exact HF.out m' (by omega) b hb)
       go_wp2
       go_roundw
       case rel=>exact ⟨m+1,by omega,by go_num,HN.out,HB3.out⟩
       case measure=>simp [intOf];omega
    ·have h8':(8:Int)<(k:Int):=by omega
     have HNO:=hide (fit_no HM.out (m:=(m:Int)) (b:=-1) (s:=-1) (by omega) (.inl rfl) (sOk_t L) (by rw [← HK2.out];exact h8))
     go_wp2
     go_ret
     exact ⟨false,rfl,by simp [HNO.out],HX.out _ HB2.out⟩
   ·have HN:=hide (fit_all HM.out HC.out (fun m' hm'=>HF.out m' (by omega)))
    go_wp2
    go_ret
    exact ⟨true,rfl,by simp [HN.out],HX.out _ HB.out⟩
 ·rw [decide_eq_false c1] at HR
  have HC:=hide c1
  clear c1
  go_enter Tryz.func37,Tryz.ntmps37
  go_wp2_with (rw [← HV.out])
  refine HR.out.mono ?_
  rintro e X1 ⟨rfl,hb1⟩
  have HB1:=hide hb1
  clear hb1
  go_wp2
  go_ret
  exact ⟨false,rfl,by simp [FitP,HC.out],HX.out _ HB1.out⟩
end Go.Proofs.YtngdgogjlpjjpadGreat
