import Derived.Test.YtngdgogjlpjjpadGreatP27
import Derived.Test.YtngdgogjlpjjpadGreatP29
import Derived.Test.YtngdgogjlpjjpadGreatP40
import Derived.Test.YtngdgogjlpjjpadGreatP43
namespace Go.Proofs.YtngdgogjlpjjpadGreat
open Go.RowKit Classical
set_option linter.unusedVariables false
set_option linter.unusedSimpArgs false
set_option maxRecDepth 100000
def pnO (ps:List PMod) (L:Lay) (m b s:Int):Bool:=lokB ps L && decide (0≤pcq ps m b) && decide (sOk L b s) && decide ((plR ps L m b s).length≤8)
def pnV (ps:List PMod) (L:Lay) (m b s:Int):List Rg:=if pnO ps L m b s=true then plR ps L m b s else []
def PnPost (w:World) (ps:List PMod) (L:Lay) (m b s:Int) (e:Ending) (w':World):Prop:=
 ∃ A k c,e=.returned (.tuple #[.slice A k c,.bool (pnO ps L m b s)])∧ORg w' w.heap.size (.slice A k c) (pnV ps L m b s)∧Below w.heap.size w w'
theorem pn_no {w X:World} {ps:List PMod} {L:Lay} {m b s:Int} {A:Option Addr} {k c:Nat} (hB:Below w.heap.size w X) (ho:ORg X w.heap.size (.slice A k c) []) (h:¬ (Lok ps L∧0≤pcq ps m b∧sOk L b s∧(plR ps L m b s).length≤8)):PnPost w ps L m b s (.returned (.tuple #[.slice A k c,.bool false])) X:=by
 have e:pnO ps L m b s=false:=by
  cases e:pnO ps L m b s
  ·rfl
  ·unfold pnO at e
   simp only [Bool.and_eq_true,decide_eq_true_eq,lokB_iff] at e
   exact absurd ⟨e.1.1.1,e.1.1.2,e.1.2,e.2⟩ h
 exact ⟨A,k,c,by rw [e],by unfold pnV;rw [e];exact ho,hB⟩
theorem pn_ok {w X:World} {ps:List PMod} {L:Lay} {m b s:Int} {A:Option Addr} {k c:Nat} (hB:Below w.heap.size w X) (ho:ORg X w.heap.size (.slice A k c) (plR ps L m b s)) (h1:Lok ps L) (h2:0≤pcq ps m b) (h3:sOk L b s) (h4:k≤8):PnPost w ps L m b s (.returned (.tuple #[.slice A k c,.bool true])) X:=by
 have h5:(plR ps L m b s).length≤8:=by rw [(or_rs ho).1];exact h4
 have e:pnO ps L m b s=true:=by
  unfold pnO
  simp only [Bool.and_eq_true,decide_eq_true_eq,lokB_iff]
  exact ⟨⟨⟨h1,h2⟩,h3⟩,h5⟩
 exact ⟨A,k,c,by rw [e],by unfold pnV;rw [e];exact ho,hB⟩
set_option maxHeartbeats 4000000 in
theorem sPlan_any (a:Option Addr) (n cap:Nat) (ms:List Md) (L:Lay) (a0:Option Addr) (c0:Nat) (xs:List PB) (a2:Option Addr) (c2:Nat) (a5:Option Addr) (c5:Nat) (ts:List TB) (m b at' s:Int) (w:World) (h:MSD w a n cap ms) (hL:LyT w L a0 c0 xs a2 c2 a5 c5 ts):
 Calls Tryz.prog 34 #[.slice a n cap,.agg #[.slice a0 xs.length c0,.int .i64 L.stack,.slice a2 L.slots.length c2,.int .i64 L.flash,.int .i64 L.ram,.slice a5 ts.length c5],.agg #[.int .i64 m,.int .i64 b,.int .i64 at'],.int .i64 s] w (PnPost w (pmS ms) L m b s):=by
 obtain ⟨W,hW⟩:∃ W,W=(w.alloc (.cells #[.slice a0 xs.length c0,.int .i64 L.stack,.slice a2 L.slots.length c2,.int .i64 L.flash,.int .i64 L.ram,.slice a5 ts.length c5] 32)).alloc (.cells #[.int .i64 m,.int .i64 b,.int .i64 at'] 72):=⟨_,rfl⟩
 have hB:Below w.heap.size w W:=by rw [hW];exact ((Below.refl _ _).alloc (Nat.le_refl _) _).alloc (by simp) _
 have k0:Blk W w.heap.size #[.slice a0 xs.length c0,.int .i64 L.stack,.slice a2 L.slots.length c2,.int .i64 L.flash,.int .i64 L.ram,.slice a5 ts.length c5] 32:=by rw [hW];exact (Blk.new w _ _).alloc _
 have k1:Blk W (w.heap.size+1) #[.int .i64 m,.int .i64 b,.int .i64 at'] 72:=by rw [hW];have:=Blk.new (w.alloc (.cells #[.slice a0 xs.length c0,.int .i64 L.stack,.slice a2 L.slots.length c2,.int .i64 L.flash,.int .i64 L.ram,.slice a5 ts.length c5] 32)) #[.int .i64 m,.int .i64 b,.int .i64 at'] 72;simpa using this
 obtain ⟨V,hV⟩:∃ V,V=W.alloc (.cells #[] 135):=⟨_,rfl⟩
 have bV:Below W.heap.size W V:=by rw [hV];exact (Below.refl _ _).alloc (Nat.le_refl _) _
 have hBV:=hB.trans (bV.mono hB.size)
 have HNIL:=hide (show ORg V w.heap.size (.slice (some ⟨W.heap.size,0,none⟩) 0 0) [] by rw [hV];exact or_empty W w.heap.size hB.size)
 have HBV:=hide hBV
 have HK0:=hide (And.intro (k0.below bV) (k1.below bV))
 have HM:=hide (h.below hBV)
 have HL2:=hide (hL.below hBV)
 have HW:=hide hW
 have HV:=hide hV
 have HKX:=hide (show ∀ X,Below V.heap.size V X→(X.cell? ⟨w.heap.size,0,none⟩=some (.slice a0 xs.length c0)∧X.cell? ⟨w.heap.size,1,none⟩=some (.int .i64 L.stack)∧X.cell? ⟨w.heap.size,2,none⟩=some (.slice a2 L.slots.length c2)∧X.cell? ⟨w.heap.size,3,none⟩=some (.int .i64 L.flash)∧X.cell? ⟨w.heap.size,4,none⟩=some (.int .i64 L.ram)∧X.cell? ⟨w.heap.size,5,none⟩=some (.slice a5 ts.length c5))∧X.cell? ⟨w.heap.size+1,0,none⟩=some (.int .i64 m)∧X.cell? ⟨w.heap.size+1,1,none⟩=some (.int .i64 b)∧X.cell? ⟨w.heap.size+1,2,none⟩=some (.int .i64 at') from fun X hz=>
  ⟨(HK0.out.1.below hz).ly6,(HK0.out.2.below hz).cell 0,(HK0.out.2.below hz).cell 1,(HK0.out.2.below hz).cell 2⟩)
 have HX:=hide (show ∀ X,Below V.heap.size V X→ORg X w.heap.size (.slice (some ⟨W.heap.size,0,none⟩) 0 0) []∧Below w.heap.size w X from fun X hz=>⟨turn_or' (turn_below hz) HNIL.out (fun _ _ h=>h),HBV.out.trans (hz.mono HBV.out.size)⟩)
 have HR:=hide (show Calls Tryz.prog 69 #[.slice a n cap,.agg #[.slice a0 xs.length c0,.int .i64 L.stack,.slice a2 L.slots.length c2,.int .i64 L.flash,.int .i64 L.ram,.slice a5 ts.length c5]] V (fun e w'=>e=.returned (.bool (decide (Lok (pmS ms) L)))∧Below V.heap.size V w') from l5Real_any a n cap ms L a0 c0 xs a2 c2 a5 c5 ts V HM.out HL2.out)
 have HT:=hide (show ∀ X,Below V.heap.size V X→Calls Tryz.prog 109 #[.slice a n cap,.int .i64 m,.int .i64 b] X (fun e w'=>e=.returned (.bool (decide (0≤pcq (pmS ms) m b)))∧Below V.heap.size V w') from fun X hz=>(l6There_any a n cap ms m b X (HM.out.below hz).s).mono fun e w' he=>⟨by rw [← pcm_pcq HM.out];exact he.1,hz.trans (he.2.mono hz.size)⟩)
 have hsl:=hL.s.2.1
 unfold maxLen at hsl
 have HSE:=hide (show L.slots=[] ↔ L.slots.length=0 from List.length_eq_zero_iff.symm)
 clear hW hV k0 k1 h hL hB bV hBV
 obtain ⟨⟨z4,z5,z6,z7,z8,z9⟩,z10,z11,z12⟩:=HKX.out _ (Below.refl _ _)
 by_cases c1:Lok (pmS ms) L
 ·rw [decide_eq_true c1] at HR
  by_cases c2':0≤pcq (pmS ms) m b
  ·rw [decide_eq_true c2'] at HT
   have HPL0:=hide (show (s=-1∨(b≠-1∧0≤s∧s<(L.slots.length:Int)))→∀ X,Below V.heap.size V X→Calls Tryz.prog 110 #[.slice a n cap,.agg #[.slice a0 xs.length c0,.int .i64 L.stack,.slice a2 L.slots.length c2,.int .i64 L.flash,.int .i64 L.ram,.slice a5 ts.length c5],.agg #[.int .i64 m,.int .i64 b,.int .i64 at'],.int .i64 s] X (fun e w'=>∃ A k c,e=.returned (.slice A k c)∧ORg w' X.heap.size (.slice A k c) (plR (pmS ms) L m b s)∧Below X.heap.size X w') from fun hf X hz=>l6Plan_any a n cap ms L a0 c0 xs a2 c2 a5 c5 ts m b at' s X (HM.out.below hz) (HL2.out.below hz) c1 c2' hf)
   by_cases c3:sOk L b s
   ·have HC:=hide (And.intro c1 (And.intro c2' c3))
    have HPL:=hide (HPL0.out c3.fit)
    have hc3:=c3
    unfold sOk at hc3
    clear c1 c2' c3 HPL0
    by_cases cb:b=-1
    ·rw [if_pos (.inl cb)] at hc3
     have hb1:(b == -1)=true:=by simpa using cb
     have hs1:(s != -1)=false:=by simp [hc3]
     subst cb
     subst hc3
     go_enter Tryz.func34,Tryz.ntmps34
     go_wp2_with (first | rw [← HW.out] | rw [← HV.out])
     refine HR.out.mono ?_
     rintro e X1 ⟨rfl,hb1⟩
     have HB1:=hide hb1
     clear hb1 z4 z5 z6 z7 z8 z9 z10 z11 z12
     obtain ⟨⟨z4,z5,z6,z7,z8,z9⟩,z10,z11,z12⟩:=HKX.out _ HB1.out
     go_wp2_with fail
     refine (HT.out _ HB1.out).mono ?_
     rintro e X2 ⟨rfl,hb2⟩
     have HB2:=hide hb2
     clear hb2 z4 z5 z6 z7 z8 z9 z10 z11 z12
     obtain ⟨⟨z4,z5,z6,z7,z8,z9⟩,z10,z11,z12⟩:=HKX.out _ HB2.out
     go_wp2_with fail
     refine (HPL.out _ HB2.out).mono ?_
     rintro e X3 ⟨A,k,c,rfl,ho,hb3⟩
     have HB3:=hide hb3
     have HO:=hide ho
     clear ho hb3 z4 z5 z6 z7 z8 z9 z10 z11 z12
     by_cases h8:k≤8
     ·have h8':(k:Int)≤8:=by omega
      go_wp2
      go_ret2
      exact pn_ok ((HX.out _ HB2.out).2.trans (HB3.out.mono (HX.out _ HB2.out).2.size)) (org_mono HO.out (HX.out _ HB2.out).2.size) HC.out.1 HC.out.2.1 HC.out.2.2 h8
     ·have h8':(8:Int)<(k:Int):=by omega
      have HQ:=hide (HX.out _ (HB2.out.trans (HB3.out.mono HB2.out.size)))
      have HK:=hide h8
      go_wp2
      go_ret2
      exact pn_no HQ.out.2 HQ.out.1 (fun h=>HK.out (by have:=(or_rs HO.out).1;omega))
    ·have hb1:(b == -1)=false:=by simpa using cb
     by_cases cl:L.slots=[]
     ·rw [if_pos (.inr cl)] at hc3
      have hl:L.slots.length=0:=HSE.out.1 cl
      rw [hl] at HR HPL z6 HKX HW ⊢
      subst hc3
      clear cl
      go_enter Tryz.func34,Tryz.ntmps34
      go_wp2_with (first | rw [← HW.out] | rw [← HV.out])
      refine HR.out.mono ?_
      rintro e X1 ⟨rfl,hb1⟩
      have HB1:=hide hb1
      clear hb1 z4 z5 z6 z7 z8 z9 z10 z11 z12
      obtain ⟨⟨z4,z5,z6,z7,z8,z9⟩,z10,z11,z12⟩:=HKX.out _ HB1.out
      go_wp2_with fail
      refine (HT.out _ HB1.out).mono ?_
      rintro e X2 ⟨rfl,hb2⟩
      have HB2:=hide hb2
      clear hb2 z4 z5 z6 z7 z8 z9 z10 z11 z12
      obtain ⟨⟨z4,z5,z6,z7,z8,z9⟩,z10,z11,z12⟩:=HKX.out _ HB2.out
      go_wp2_with fail
      refine (HPL.out _ HB2.out).mono ?_
      rintro e X3 ⟨A,k,c,rfl,ho,hb3⟩
      have HB3:=hide hb3
      have HO:=hide ho
      clear ho hb3 z4 z5 z6 z7 z8 z9 z10 z11 z12
      by_cases h8:k≤8
      ·have h8':(k:Int)≤8:=by omega
       go_wp2
       go_ret2
       exact pn_ok ((HX.out _ HB2.out).2.trans (HB3.out.mono (HX.out _ HB2.out).2.size)) (org_mono HO.out (HX.out _ HB2.out).2.size) HC.out.1 HC.out.2.1 HC.out.2.2 h8
      ·have h8':(8:Int)<(k:Int):=by omega
       have HQ:=hide (HX.out _ (HB2.out.trans (HB3.out.mono HB2.out.size)))
       have HK:=hide h8
       go_wp2
       go_ret2
       exact pn_no HQ.out.2 HQ.out.1 (fun h=>HK.out (by have:=(or_rs HO.out).1;omega))
     ·rw [if_neg (fun h=>h.elim cb cl)] at hc3
      have hl:¬ L.slots.length=0:=fun h=>cl (HSE.out.2 h)
      have hl0:((L.slots.length:Int) == 0)=false:=by simpa using hl
      have hs0:¬ s<0:=by omega
      have hs0':0≤s:=hc3.1
      have hs1:s<(L.slots.length:Int):=hc3.2
      clear hc3 cl hl
      generalize hlg:L.slots.length=l at *
      clear hlg
      go_enter Tryz.func34,Tryz.ntmps34
      go_wp2_with (first | rw [← HW.out] | rw [← HV.out])
      refine HR.out.mono ?_
      rintro e X1 ⟨rfl,hb1⟩
      have HB1:=hide hb1
      clear hb1 z4 z5 z6 z7 z8 z9 z10 z11 z12
      obtain ⟨⟨z4,z5,z6,z7,z8,z9⟩,z10,z11,z12⟩:=HKX.out _ HB1.out
      go_wp2_with fail
      refine (HT.out _ HB1.out).mono ?_
      rintro e X2 ⟨rfl,hb2⟩
      have HB2:=hide hb2
      clear hb2 z4 z5 z6 z7 z8 z9 z10 z11 z12
      obtain ⟨⟨z4,z5,z6,z7,z8,z9⟩,z10,z11,z12⟩:=HKX.out _ HB2.out
      go_wp2_with fail
      refine (HPL.out _ HB2.out).mono ?_
      rintro e X3 ⟨A,k,c,rfl,ho,hb3⟩
      have HB3:=hide hb3
      have HO:=hide ho
      clear ho hb3 z4 z5 z6 z7 z8 z9 z10 z11 z12
      by_cases h8:k≤8
      ·have h8':(k:Int)≤8:=by omega
       go_wp2
       go_ret2
       exact pn_ok ((HX.out _ HB2.out).2.trans (HB3.out.mono (HX.out _ HB2.out).2.size)) (org_mono HO.out (HX.out _ HB2.out).2.size) HC.out.1 HC.out.2.1 HC.out.2.2 h8
      ·have h8':(8:Int)<(k:Int):=by omega
       have HQ:=hide (HX.out _ (HB2.out.trans (HB3.out.mono HB2.out.size)))
       have HK:=hide h8
       go_wp2
       go_ret2
       exact pn_no HQ.out.2 HQ.out.1 (fun h=>HK.out (by have:=(or_rs HO.out).1;omega))
   ·have HNO:=hide c3
    have hc3:=c3
    unfold sOk at hc3
    clear c1 c2' c3 HPL0
    by_cases cb:b=-1
    ·rw [if_pos (.inl cb)] at hc3
     have hb1:(b == -1)=true:=by simpa using cb
     have hs1:(s != -1)=true:=by simpa using hc3
     have hs2:(s == -1)=false:=by simpa using hc3
     subst cb
     clear hc3
     go_enter Tryz.func34,Tryz.ntmps34
     go_wp2_with (first | rw [← HW.out] | rw [← HV.out])
     refine HR.out.mono ?_
     rintro e X1 ⟨rfl,hb1⟩
     have HB1:=hide hb1
     clear hb1 z4 z5 z6 z7 z8 z9 z10 z11 z12
     obtain ⟨⟨z4,z5,z6,z7,z8,z9⟩,z10,z11,z12⟩:=HKX.out _ HB1.out
     go_wp2_with fail
     refine (HT.out _ HB1.out).mono ?_
     rintro e X2 ⟨rfl,hb2⟩
     have HB2:=hide hb2
     clear hb2 z4 z5 z6 z7 z8 z9 z10 z11 z12
     obtain ⟨⟨z4,z5,z6,z7,z8,z9⟩,z10,z11,z12⟩:=HKX.out _ HB2.out
     go_wp2
     go_ret2
     exact pn_no (HX.out _ HB2.out).2 (HX.out _ HB2.out).1 (fun h=>HNO.out h.2.2.1)
    ·have hb1:(b == -1)=false:=by simpa using cb
     by_cases cl:L.slots=[]
     ·rw [if_pos (.inr cl)] at hc3
      have hs1:(s != -1)=true:=by simpa using hc3
      have hs2:(s == -1)=false:=by simpa using hc3
      have hl:L.slots.length=0:=HSE.out.1 cl
      rw [hl] at HR z6 HKX HW ⊢
      clear cl hc3
      go_enter Tryz.func34,Tryz.ntmps34
      go_wp2_with (first | rw [← HW.out] | rw [← HV.out])
      refine HR.out.mono ?_
      rintro e X1 ⟨rfl,hb1⟩
      have HB1:=hide hb1
      clear hb1 z4 z5 z6 z7 z8 z9 z10 z11 z12
      obtain ⟨⟨z4,z5,z6,z7,z8,z9⟩,z10,z11,z12⟩:=HKX.out _ HB1.out
      go_wp2_with fail
      refine (HT.out _ HB1.out).mono ?_
      rintro e X2 ⟨rfl,hb2⟩
      have HB2:=hide hb2
      clear hb2 z4 z5 z6 z7 z8 z9 z10 z11 z12
      obtain ⟨⟨z4,z5,z6,z7,z8,z9⟩,z10,z11,z12⟩:=HKX.out _ HB2.out
      go_wp2
      go_ret2
      exact pn_no (HX.out _ HB2.out).2 (HX.out _ HB2.out).1 (fun h=>HNO.out h.2.2.1)
     ·rw [if_neg (fun h=>h.elim cb cl)] at hc3
      have hl:¬ L.slots.length=0:=fun h=>cl (HSE.out.2 h)
      have hl0:((L.slots.length:Int) == 0)=false:=by simpa using hl
      by_cases hs0:s<0
      ·clear hc3 cl hl
       generalize hlg:L.slots.length=l at *
       clear hlg
       go_enter Tryz.func34,Tryz.ntmps34
       go_wp2_with (first | rw [← HW.out] | rw [← HV.out])
       refine HR.out.mono ?_
       rintro e X1 ⟨rfl,hb1⟩
       have HB1:=hide hb1
       clear hb1 z4 z5 z6 z7 z8 z9 z10 z11 z12
       obtain ⟨⟨z4,z5,z6,z7,z8,z9⟩,z10,z11,z12⟩:=HKX.out _ HB1.out
       go_wp2_with fail
       refine (HT.out _ HB1.out).mono ?_
       rintro e X2 ⟨rfl,hb2⟩
       have HB2:=hide hb2
       clear hb2 z4 z5 z6 z7 z8 z9 z10 z11 z12
       obtain ⟨⟨z4,z5,z6,z7,z8,z9⟩,z10,z11,z12⟩:=HKX.out _ HB2.out
       go_wp2
       go_ret2
       exact pn_no (HX.out _ HB2.out).2 (HX.out _ HB2.out).1 (fun h=>HNO.out h.2.2.1)
      ·have hs0':0≤s:=by omega
       have hs1:(L.slots.length:Int)≤s:=by omega
       clear hc3 cl hl
       generalize hlg:L.slots.length=l at *
       clear hlg
       go_enter Tryz.func34,Tryz.ntmps34
       go_wp2_with (first | rw [← HW.out] | rw [← HV.out])
       refine HR.out.mono ?_
       rintro e X1 ⟨rfl,hb1⟩
       have HB1:=hide hb1
       clear hb1 z4 z5 z6 z7 z8 z9 z10 z11 z12
       obtain ⟨⟨z4,z5,z6,z7,z8,z9⟩,z10,z11,z12⟩:=HKX.out _ HB1.out
       go_wp2_with fail
       refine (HT.out _ HB1.out).mono ?_
       rintro e X2 ⟨rfl,hb2⟩
       have HB2:=hide hb2
       clear hb2 z4 z5 z6 z7 z8 z9 z10 z11 z12
       obtain ⟨⟨z4,z5,z6,z7,z8,z9⟩,z10,z11,z12⟩:=HKX.out _ HB2.out
       go_wp2
       go_ret2
       exact pn_no (HX.out _ HB2.out).2 (HX.out _ HB2.out).1 (fun h=>HNO.out h.2.2.1)
  ·rw [decide_eq_false c2'] at HT
   have HC:=hide c2'
   clear c1 c2'
   go_enter Tryz.func34,Tryz.ntmps34
   go_wp2_with (first | rw [← HW.out] | rw [← HV.out])
   refine HR.out.mono ?_
   rintro e X1 ⟨rfl,hb1⟩
   have HB1:=hide hb1
   clear hb1 z4 z5 z6 z7 z8 z9 z10 z11 z12
   obtain ⟨⟨z4,z5,z6,z7,z8,z9⟩,z10,z11,z12⟩:=HKX.out _ HB1.out
   go_wp2_with fail
   refine (HT.out _ HB1.out).mono ?_
   rintro e X2 ⟨rfl,hb2⟩
   have HB2:=hide hb2
   clear hb2
   go_wp2
   go_ret2
   exact pn_no (HX.out _ HB2.out).2 (HX.out _ HB2.out).1 (fun h=>absurd h.2.1 (by have:=HC.out;omega))
 ·rw [decide_eq_false c1] at HR
  have HC:=hide c1
  clear c1
  go_enter Tryz.func34,Tryz.ntmps34
  go_wp2_with (first | rw [← HW.out] | rw [← HV.out])
  refine HR.out.mono ?_
  rintro e X1 ⟨rfl,hb1⟩
  have HB1:=hide hb1
  clear hb1
  go_wp2
  go_ret2
  exact pn_no (HX.out _ HB1.out).2 (HX.out _ HB1.out).1 (fun h=>HC.out h.1)
def wdA (g cap e:Nat) (x:Int):Md:=⟨⟨#[109,97]⟩,some ⟨g,0,none⟩,8,cap,List.replicate 8 x,none,0,0,[],none,0,0,[],0,none,0,0,[],none,0,0,[],some ⟨e,0,none⟩,1,1,[(⟨#[103,111]⟩,-1,0)]⟩
def wdB (g cap t:Nat) (x:Int):Md:=⟨⟨#[108,105,98]⟩,some ⟨g,0,none⟩,t,cap,List.replicate t x,none,0,0,[],none,0,0,[],288,none,0,0,[],none,0,0,[],none,0,0,[]⟩
def wdV (m:Md):List Value:=[.string m.nm,.slice m.ta m.tn m.tc,.slice m.ba m.bn m.bc,.slice m.da m.dn m.dc,.int .i64 m.bss,.slice m.ra m.rn m.rc,.slice m.ia m.im m.ic,.slice m.ea m.en m.ec]
theorem is_take {w:World} {g n c:Nat} {x:Int} (h:IS w (some ⟨g,0,none⟩) n c (List.replicate n x)) (t:Nat) (ht:t≤n):IS w (some ⟨g,0,none⟩) t c (List.replicate t x):=by
 obtain ⟨h1,h2,h3,h4,h5⟩:=h
 refine ⟨by simp,by omega,fun z hz=>?_,fun hn=>?_,by omega⟩
 ·rw [List.mem_replicate] at hz
  exact h3 z (List.mem_replicate.2 ⟨by omega,hz.2⟩)
 ·obtain ⟨b,off,e,hc⟩:=h4 (by omega)
  refine ⟨b,off,e,fun i hi=>?_⟩
  have:=hc i (by omega)
  simpa [List.getD_eq_getElem?_getD,hi,show i<n by omega] using this
theorem is_none (w:World):IS w none 0 0 []:=⟨rfl,by decide,by simp,fun h=>absurd rfl h,Nat.le_refl _⟩
theorem bks0 (w:World):BKS w none 0 0 []:=⟨rfl,by decide,fun h=>absurd rfl h,fun i h=>absurd h (Nat.not_lt_zero _),Nat.le_refl _⟩
theorem bs0 (w:World):BS w none 0 0 []:=⟨rfl,by decide,by simp,fun h=>absurd rfl h,Nat.le_refl _⟩
theorem ss0 (w:World):SS w none 0 0 []:=⟨rfl,by decide,by simp,fun h=>absurd rfl h,Nat.le_refl _⟩
theorem es0 (w:World):ES w none 0 0 []:=⟨rfl,by decide,by simp,fun h=>absurd rfl h,Nat.le_refl _⟩
theorem es1 {w:World} {e:Nat} (ke:Blk w e #[.string ⟨#[103,111]⟩,.int .i64 (-1),.int .i64 0] 210):ES w (some ⟨e,0,none⟩) 1 1 [(⟨#[103,111]⟩,-1,0)]:=⟨rfl,by decide,by simp;decide,fun _=>⟨e,0,rfl,fun i hi=>by
 have:i=0:=by omega
 subst this
 exact ⟨ke.cell 0,ke.cell 1,ke.cell 2⟩⟩,Nat.le_refl _⟩
theorem wd_msd {W:World} {base g cap e q t:Nat} {x:Int} (o:OG 3 1 clI W base (.slice (some ⟨g,0,none⟩) 200 cap) (List.replicate 200 x)) (hx:wfi x) (ht:t≤200) (ke:Blk W e #[.string ⟨#[103,111]⟩,.int .i64 (-1),.int .i64 0] 210) (kq:Blk W q (wdV (wdA g cap e x)++wdV (wdB g cap t x)).toArray 49):MSD W (some ⟨q,0,none⟩) 2 2 [wdA g cap e x,wdB g cap t x]:=by
 have I:=og_is o (fun z hz=>by rw [(List.mem_replicate.1 hz).2];exact hx)
 have hA:(wdA g cap e x).md W:=MD.mk (show (⟨#[109,97]⟩:ByteArray).size≤1048576 by decide) (is_take I 8 (by omega)) (bks0 W) (bs0 W) (show wfi 0 by unfold wfi;decide) (is_none W) (ss0 W) (es1 ke)
 have hB:(wdB g cap t x).md W:=MD.mk (show (⟨#[108,105,98]⟩:ByteArray).size≤1048576 by decide) (is_take I t ht) (bks0 W) (bs0 W) (show wfi 288 by unfold wfi;decide) (is_none W) (ss0 W) (es0 W)
 have hd:∀ i,i<2→(([wdA g cap e x,wdB g cap t x]:List Md).getD i zMd).md W:=fun i hi=>by
  match i,hi with
  | 0,_=>exact hA
  | 1,_=>exact hB
 refine ⟨⟨rfl,by decide,fun _=>⟨q,0,rfl,fun i hi=>?_⟩,fun i hi=>mt_of_md2 (hd i hi),Nat.le_refl _⟩,hd⟩
 match i,hi with
 | 0,_=>exact ⟨kq.cell 0,kq.cell 1,kq.cell 2,kq.cell 3,kq.cell 4,kq.cell 5,kq.cell 6,kq.cell 7⟩
 | 1,_=>exact ⟨kq.cell 8,kq.cell 9,kq.cell 10,kq.cell 11,kq.cell 12,kq.cell 13,kq.cell 14,kq.cell 15⟩
def WdP (w:World) (e:Ending) (w':World):Prop:=∃ (g:Nat) (ms:List Md),e=.returned (.tuple #[.slice (some ⟨g,0,none⟩) 2 2,.agg #[.int .i64 0,.int .i64 1,.int .i64 512,.int .i64 3]])∧(∀ X,Turn (fun j=>j<w.heap.size) w' X→MSD X (some ⟨g,0,none⟩) 2 2 ms)∧Below w.heap.size w w'
theorem wd_end {W:World} {q:Nat} {z0 z1 z2 z3:Value} {va:Option Addr} {vn vc:Nat} (k1:Blk W q #[z0,z1,z2,z3] 25) (v0 v1 v2 v3:Value) (Q:Ending→World→Prop) (tmps:Array Value) (h2:tmps[2]?=some (.slice va vn vc)) (h4:tmps[3]?=some (.pointer (some ⟨q,0,none⟩))) (hQ:Q (.returned (.tuple #[.slice va vn vc,.agg #[v0,v1,v2,v3]])) (st4 W q v0 v1 v2 v3)):
 bodyPost Tryz.prog Tryz.f108 Q Exit.ret ⟨tmps,[]⟩ (st4 W q v0 v1 v2 v3):=by
 obtain ⟨⟨t0,t1,t2,t3⟩,_⟩:=(blk_st4 k1 v0 v1 v2 v3).cfr
 refine bodyPost_ret_by (v:=.tuple #[.slice va vn vc,.agg #[v0,v1,v2,v3]]) ?_ rfl hQ
 simp [results,Tryz.results108,go_sem,h2,h4,t0,t1,t2,t3]
structure Wdx (w X:World) (v:Value) (j:Nat) (x:Int):Prop where
 b:Below w.heap.size w X
 o:OG 3 1 clI X (w.heap.size+1) v (List.replicate j x)
 k:Blk X w.heap.size #[.int .i64 0,.int .i64 0,.int .i64 0,.int .i64 0] 25
theorem Wdx.below {w X X':World} {v:Value} {j:Nat} {x:Int} (h:Wdx w X v j x) (hb:Below X.heap.size X X'):Wdx w X' v j x:=⟨h.b.trans (hb.mono h.b.size),h.o.below hb,h.k.below hb⟩
theorem Wdx.grow {w X X':World} {a:Option Addr} {n c:Nat} {v':Value} {j:Nat} {x:Int} (h:Wdx w X (.slice a n c) j x) (hown:X'.ownsRow (w.heap.size+1) 3 1 v' (j+1) ((List.replicate j x).flatMap clI++clI x)) (hg:X.grownBy X' (Value.slice a n c).ownBlock):Wdx w X' v' (j+1) x:=by
 have lt:=h.o.lt
 refine ⟨below_turn h.b (S:=fun k=>(Value.slice a n c).ownBlock=some k) ⟨hg.os,hg.tape,hg.output,hg.size,fun k hk hs=>hg.block k hk (fun e=>hs e.symm)⟩ (fun k hk=>by have:=(lt k hk).1;omega) h.b.size,?_,grown_blk hg h.k (fun e=>by have:=(lt _ e.symm).1;omega)⟩
 unfold OG
 rw [List.replicate_succ',List.length_append,List.length_replicate,List.flatMap_append,List.flatMap_singleton]
 exact hown
set_option maxHeartbeats 4000000 in
theorem l6Wide_any (k:Int) (hk:0≤k∧k≤255) (w:World):Calls Tryz.prog 108 #[.int .i64 k] w (WdP w):=by
 obtain ⟨iI,hiI,hz0,hz1,hz2⟩:=info_parts infoI
 obtain ⟨x,hx⟩:∃ x,x=opW 25 0 0 0:=⟨_,rfl⟩
 have hxw:wfi x:=by rw [hx];unfold wfi;decide
 obtain ⟨t,ht⟩:∃ t:Nat,(t:Int)=200 - k % 2 * 136:=⟨(200 - k % 2 * 136).toNat,by omega⟩
 have m2:k.tmod 2=k % 2:=Int.tmod_eq_emod_of_nonneg hk.1
 have y1:IntKind.i64.wrap (k % 2 * 136)=k % 2 * 136:=wr62 _ (by omega) (by omega)
 have y2:IntKind.i64.wrap (200 - k % 2 * 136)=(t:Int):=by rw [ht];exact wr62 _ (by omega) (by omega)
 have t200:t≤200:=by omega
 have S0:Wdx w ((w.alloc (.cells #[.int .i64 0,.int .i64 0,.int .i64 0,.int .i64 0] 25)).alloc (.cells #[] 3)) (.slice (some ⟨w.heap.size+1,0,none⟩) 0 0) 0 x:=by
  refine ⟨((Below.refl _ _).alloc (Nat.le_refl _) _).alloc (by simp) _,?_,(Blk.new w _ _).alloc _⟩
  have:=og_new' 3 1 clI (w.alloc (.cells #[.int .i64 0,.int .i64 0,.int .i64 0,.int .i64 0] 25)) (w.heap.size+1) (by simp)
  simpa using this
 have HS0:=hide S0
 have CO:=hide (fun (X:World)=>l4Op_is 25 0 0 0 X 25 0 0 0 rfl rfl rfl rfl (by omega))
 rw [← hx] at CO
 clear S0 hx ht
 go_enter Tryz.func108,Tryz.ntmps108
 go_wp2
 go_loopw [4,5] (fun v i wr=>∃ j:Nat,j≤200∧i=.int .i64 j∧Wdx w wr v j x) (fun _ i _=>200 - (intOf i).toNat)
 case atStart=>exact ⟨0,Nat.zero_le _,rfl,HS0.out⟩
 case round=>
  obtain ⟨j,hj,rfl,S⟩:=hrel
  generalize wr=wr1 at *
  obtain ⟨av,cv,rfl⟩:=og_shape S.o
  rw [List.length_replicate] at *
  by_cases hlt:j<200
  ·have hlt':(j:Int)<200:=by omega
   have HS:=hide S
   clear S HS0
   go_wp2_with fail
   refine (CO.out _).mono ?_
   rintro e w1 ⟨rfl,b1⟩
   have al:=al_below w1 (.cells #[.int .i64 x] 3)
   have S1:=(HS.out.below b1).below al
   have HS1:=hide S1
   have HOW:=hide (show (w1.alloc (.cells #[.int .i64 x] 3)).ownsRow (w.heap.size+1) 3 1 (.slice av j cv) j ((List.replicate j x).flatMap clI) by have:=S1.o;unfold OG at this;rw [List.length_replicate] at this;exact this)
   have hsz:=S1.b.size
   have hsz1:=(HS.out.below b1).b.size
   clear S1 al b1
   go_wp2_with (at_builtin;refine wpList_append_own _ rfl _ _ 29 rfl (w.heap.size+1) 3 iI (.int .i64 0) 1 8 Tryz.underlying29 hiI hz0 hz1 hz2 rfl (by decide) (.slice av j cv) j ((List.replicate j x).flatMap clI) rfl HOW.out ⟨w1.heap.size,0,none⟩ 1 1 (clI x) rfl rfl (cells_new w1 _ _ (clI x) rfl) (by intro u hu;simp [clI] at hu;subst hu;rfl) (by unfold maxLen;omega) (by omega) (by simp;omega) ?_;intro v' w4 hown hgr _)
   have HN:=hide (HS1.out.grow hown hgr)
   clear hown hgr HOW HS1 HS
   go_wp2
   go_roundw
   case rel=>exact ⟨j+1,by omega,by go_num,HN.out⟩
   case measure=>simp [intOf];omega
  ·have hlt':¬ (j:Int)<200:=by omega
   obtain rfl:j=200:=by omega
   obtain ⟨g,cp,e,_⟩:=World.ownsRow.form S.o (by simp)
   simp only [Value.slice.injEq] at e
   obtain ⟨rfl,-,rfl⟩:=e
   have hcap:200≤cv:=(og_is S.o (fun z hz=>by rw [(List.mem_replicate.1 hz).2];exact hxw)).2.2.2.2
   obtain ⟨X,hX⟩:∃ X,X=(((wr1.alloc (.cells #[.string ⟨#[103,111]⟩,.int .i64 (-1),.int .i64 0] 210)).alloc (.cells #[.string ⟨#[109,97]⟩,.slice (some ⟨g,0,none⟩) 8 cv,.slice none 0 0,.slice none 0 0,.int .i64 0,.slice none 0 0,.slice none 0 0,.slice (some ⟨wr1.heap.size,0,none⟩) 1 1] 49)).alloc (.cells #[.string ⟨#[108,105,98]⟩,.slice (some ⟨g,0,none⟩) t cv,.slice none 0 0,.slice none 0 0,.int .i64 288,.slice none 0 0,.slice none 0 0,.slice none 0 0] 49)).alloc (.cells #[.string ⟨#[109,97]⟩,.slice (some ⟨g,0,none⟩) 8 cv,.slice none 0 0,.slice none 0 0,.int .i64 0,.slice none 0 0,.slice none 0 0,.slice (some ⟨wr1.heap.size,0,none⟩) 1 1,.string ⟨#[108,105,98]⟩,.slice (some ⟨g,0,none⟩) t cv,.slice none 0 0,.slice none 0 0,.int .i64 288,.slice none 0 0,.slice none 0 0,.slice none 0 0] 49):=⟨_,rfl⟩
   have bX:Below wr1.heap.size wr1 X:=by rw [hX];exact ((((Below.refl _ _).alloc (Nat.le_refl _) _).alloc (by simp) _).alloc (by simp;omega) _).alloc (by simp;omega) _
   have ke:Blk X wr1.heap.size #[.string ⟨#[103,111]⟩,.int .i64 (-1),.int .i64 0] 210:=by rw [hX];exact (((Blk.new wr1 _ _).alloc _).alloc _).alloc _
   have kq:Blk X (wr1.heap.size+1+1+1) #[.string ⟨#[109,97]⟩,.slice (some ⟨g,0,none⟩) 8 cv,.slice none 0 0,.slice none 0 0,.int .i64 0,.slice none 0 0,.slice none 0 0,.slice (some ⟨wr1.heap.size,0,none⟩) 1 1,.string ⟨#[108,105,98]⟩,.slice (some ⟨g,0,none⟩) t cv,.slice none 0 0,.slice none 0 0,.int .i64 288,.slice none 0 0,.slice none 0 0,.slice none 0 0] 49:=by rw [hX];have:=Blk.new (((wr1.alloc (.cells #[.string ⟨#[103,111]⟩,.int .i64 (-1),.int .i64 0] 210)).alloc (.cells #[.string ⟨#[109,97]⟩,.slice (some ⟨g,0,none⟩) 8 cv,.slice none 0 0,.slice none 0 0,.int .i64 0,.slice none 0 0,.slice none 0 0,.slice (some ⟨wr1.heap.size,0,none⟩) 1 1] 49)).alloc (.cells #[.string ⟨#[108,105,98]⟩,.slice (some ⟨g,0,none⟩) t cv,.slice none 0 0,.slice none 0 0,.int .i64 288,.slice none 0 0,.slice none 0 0,.slice none 0 0] 49)) #[.string ⟨#[109,97]⟩,.slice (some ⟨g,0,none⟩) 8 cv,.slice none 0 0,.slice none 0 0,.int .i64 0,.slice none 0 0,.slice none 0 0,.slice (some ⟨wr1.heap.size,0,none⟩) 1 1,.string ⟨#[108,105,98]⟩,.slice (some ⟨g,0,none⟩) t cv,.slice none 0 0,.slice none 0 0,.int .i64 288,.slice none 0 0,.slice none 0 0,.slice none 0 0] 49;simpa using this
   have k0:=S.k.below bX
   have hlt0:=S.k.lt
   obtain ⟨⟨p0,p1,p2,p3⟩,f0,f1,f2,f3⟩:=k0.cfr
   have HS:=hide (And.intro (S.o.below bX) (And.intro (S.b.trans (bX.mono S.b.size)) (And.intro ke (And.intro kq k0))))
   have HX:=hide hX
   have hszX:=bX.size
   clear S HS0 hX bX ke kq k0
   go_wp2_with (rw [← HX.out])
   refine wd_end HS.out.2.2.2.2 _ _ _ _ _ _ rfl rfl ?_
   obtain ⟨o,bX,ke,kq,k0⟩:=HS.out
   refine ⟨_,[wdA g cv wr1.heap.size x,wdB g cv t x],rfl,fun Y TY=>?_,below_turn bX (turn_st4 X w.heap.size _ _ _ _) (fun j hj=>by omega) bX.size⟩
   have T:Turn (fun j=>j=w.heap.size∨j<w.heap.size) X Y:=((turn_st4 X w.heap.size _ _ _ _).mono (fun j hj=>.inl hj)).trans (TY.mono (fun j hj=>.inr hj))
   exact wd_msd (o.kept T (fun j hj s=>by have:=(o.lt j hj).1;rcases s with s | s <;> omega)) hxw t200 (turn_blk T ke (by omega)) (turn_blk T kq (by omega))
theorem ORg.bl {w w':World} {base:Nat} {v:Value} {rs:List Rg} (h:ORg w base v rs) (hb:Below w.heap.size w w'):ORg w' base v rs:=turn_or' (turn_below hb) h (fun _ _ h=>h)
structure Kn (cf:Array Value) (tc:TypeId) (ct:Array Value) (tt:TypeId) (base:Nat) (R:List Rg) (w W5:World) (p:Option Addr) (k q:Nat) (W:World):Prop where
 be:Below w.heap.size w W
 kc:Blk W w.heap.size cf tc
 kt:Blk W (w.heap.size+1) ct tt
 mw:ORg W base (.slice p k q) R
 m5:ORg W5 base (.slice p k q) R
 n5:w.heap.size+1<W5.heap.size
 w5:W5.heap.size≤W.heap.size
section
variable {cf:Array Value} {tc:TypeId} {ct:Array Value} {tt:TypeId} {base:Nat} {R:List Rg} {w W5 W W':World} {p:Option Addr} {k q:Nat}
theorem Kn.turn {S:Nat→Prop} (h:Kn cf tc ct tt base R w W5 p k q W) (t:Turn S W W') (hS:∀ j,S j→W5.heap.size≤j):Kn cf tc ct tt base R w W5 p k q W':=
 ⟨below_turn h.be t (fun k s=>by have:=hS k s;have:=h.n5;omega) h.be.size,turn_blk t h.kc (fun s=>by have:=hS _ s;have:=h.n5;omega),turn_blk t h.kt (fun s=>by have:=hS _ s;have:=h.n5;omega),turn_or' t h.mw (fun j hj s=>by have:=hS _ s;have:=or_lt h.m5 j hj;omega),h.m5,h.n5,Nat.le_trans h.w5 t.size⟩
theorem Kn.below (h:Kn cf tc ct tt base R w W5 p k q W) (hb:Below W.heap.size W W'):Kn cf tc ct tt base R w W5 p k q W':=h.turn (S:=fun _=>False) (turn_below hb) (fun _ s=>absurd s id)
end
theorem Blk.tg3 {w:World} {b:Nat} {t:TypeId} {v0 v1 v2:Value} (h:Blk w b #[v0,v1,v2] t):w.cell? ⟨b,0,none⟩=some v0∧w.cell? ⟨b,1,none⟩=some v1∧w.cell? ⟨b,2,none⟩=some v2:=⟨h.cell 0,h.cell 1,h.cell 2⟩
end Go.Proofs.YtngdgogjlpjjpadGreat
