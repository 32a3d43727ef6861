import Derived.Test.YtngdgogjlpjjpadGreatP05
import Derived.Test.YtngdgogjlpjjpadGreatP07
import Derived.Test.YtngdgogjlpjjpadGreatP08
import Derived.Test.YtngdgogjlpjjpadGreatP09
namespace Go.Proofs.YtngdgogjlpjjpadGreat
open Go.RowKit Classical
set_option linter.unusedVariables false
set_option linter.unusedSimpArgs false
set_option maxRecDepth 100000
set_option maxHeartbeats 8000000 in
theorem iLink_any (a:Option Addr) (n cap:Nat) (ms:List Md) (s c k d:Int) (w:World) (h:MSD w a n cap ms):
 Calls Tryz.prog 9 #[.slice a n cap,.agg #[.int .i64 s,.int .i64 c,.int .i64 k,.int .i64 d]] w (LkM w (pmS ms) s c k d):=by
 have K0:=kin_new w s c k d
 have hl:=h.s.1
 have hpl:(pmS ms).length=n:=by rw [pmS_len,hl]
 have HH:=hide h
 have HSND:=hide (fun (W:World) (hb:Below w.heap.size w W)=>linkFault_any a n cap ms s c k d W (h.below hb))
 obtain ⟨V,hV⟩:∃ V,V=snd4 (pmS ms) s c k d:=⟨_,rfl⟩
 rw [← hV] at HSND
 have HV:=hide hV
 have HK:=hide K0
 clear h K0 hV
 go_enter Tryz.func9,Tryz.ntmps9
 go_wp2_with fail
 refine (HSND.out _ HK.out.be).mono ?_
 rintro e w1 ⟨rfl,hb1⟩
 have S1:=HK.out.below hb1
 clear hb1 HK
 by_cases hV0:V=0
 ·have hs4:=HV.out
  rw [hV0] at hs4
  obtain ⟨hcf,h4,hvl⟩:=snd4_parts hs4.symm
  obtain ⟨hs0,hs1,hc0,hc1,_⟩:=of_decide_eq_true hcf
  have HS4:=hide hs4.symm
  have HVL:=hide hvl
  have HCF:=hide hcf
  rw [hpl] at h4
  subst hV0
  have HTA:=hide (targetsOf_any a n cap ms w1 (HH.out.below S1.be) hvl h4)
  have HS1:=hide S1
  clear hs4 hvl hcf S1
  go_wp2_with fail
  refine HTA.out.mono ?_
  rintro e w2 ⟨hb2,H2⟩
  have S2:=HS1.out.below hb2
  have hs1w:=HS1.out.be.size
  rcases H2 with ⟨hno,v,rfl⟩ | ⟨hyes,f,rfl,TF,hfe⟩
  ·have HP:=hide (lkc_5 (d:=d) (k:=k) (w:=c) (s:=s) HS4.out hno)
   have HS:=hide S2
   have p0:w2.cell? ⟨w.heap.size+1,0,none⟩=some (.slice none 0 0):=S2.k1.cell 0
   have p1:w2.cell? ⟨w.heap.size+1,1,none⟩=some (.int .i64 0):=S2.k1.cell 1
   have p2:w2.cell? ⟨w.heap.size+1,2,none⟩=some (.slice none 0 0):=S2.k1.cell 2
   have p3:w2.cell? ⟨w.heap.size+1,3,none⟩=some (.int .i64 0):=S2.k1.cell 3
   have p4:w2.cell? ⟨w.heap.size+1,4,none⟩=some (.int .i64 0):=S2.k1.cell 4
   have p5:w2.cell? ⟨w.heap.size+1,5,none⟩=some (.slice none 0 0):=S2.k1.cell 5
   have y0:w2.frozen? ⟨w.heap.size+1,0,none⟩=false:=S2.k1.frozen 0
   have y1:w2.frozen? ⟨w.heap.size+1,1,none⟩=false:=S2.k1.frozen 1
   have y2:w2.frozen? ⟨w.heap.size+1,2,none⟩=false:=S2.k1.frozen 2
   have y3:w2.frozen? ⟨w.heap.size+1,3,none⟩=false:=S2.k1.frozen 3
   have y4:w2.frozen? ⟨w.heap.size+1,4,none⟩=false:=S2.k1.frozen 4
   have y5:w2.frozen? ⟨w.heap.size+1,5,none⟩=false:=S2.k1.frozen 5
   clear S2 hno hb2 HTA HS1
   go_wp2
   exact link_noI HS.out HP.out (by decide) _ rfl rfl
  ·have HI:=hide hyes
   have HFE:=hide hfe
   obtain ⟨gt,hgt0⟩:∃ gt,gt=w1.heap.size:=⟨_,rfl⟩
   rw [← hgt0] at TF hs1w ⊢
   have HTF0:=hide TF
   have HS2:=hide S2
   have c0:w2.cell? ⟨w.heap.size,0,none⟩=some (.int .i64 s):=S2.k0.cell 0
   have c1:w2.cell? ⟨w.heap.size,1,none⟩=some (.int .i64 c):=S2.k0.cell 1
   have c2:w2.cell? ⟨w.heap.size,2,none⟩=some (.int .i64 k):=S2.k0.cell 2
   have c3:w2.cell? ⟨w.heap.size,3,none⟩=some (.int .i64 d):=S2.k0.cell 3
   clear hyes hfe TF S2 hb2 HTA HS1 hgt0
   by_cases hsz:s=0
   ·subst hsz
    have HN6:=hide (show ¬ ((0:Int)<0∧¬ shrt (pmS ms) c) from fun e=>absurd e.1 (by omega))
    go_wp2_with fail
    go_quiet (fail)
    have HS:Hid (Kin w (w2.drewN nq) 0 c k d):=hide ⟨below_dN HS2.out.be nq,HS2.out.k0,HS2.out.k1⟩
    have HTF:Hid (Tf (w2.drewN nq) gt gt n f):=hide ⟨HTF0.out.head,HTF0.out.rows,HTF0.out.apart⟩
    clear HS2 HTF0 c0 c1 c2 c3
    generalize w2.drewN nq=w3 at *
    have HLA:=hide (layOut_any a n cap ms 0 c k d w3 (HH.out.below HS.out.be) h4 HCF.out HVL.out)
    have c0:w3.cell? ⟨w.heap.size,0,none⟩=some (.int .i64 0):=HS.out.k0.cell 0
    have c1:w3.cell? ⟨w.heap.size,1,none⟩=some (.int .i64 c):=HS.out.k0.cell 1
    have c2:w3.cell? ⟨w.heap.size,2,none⟩=some (.int .i64 k):=HS.out.k0.cell 2
    have c3:w3.cell? ⟨w.heap.size,3,none⟩=some (.int .i64 d):=HS.out.k0.cell 3
    go_wp2_with fail
    refine HLA.out.mono ?_
    rintro e w4 ⟨hb4,a0,d0,xs,a2,d2,rfl,LO⟩
    have S4:=HS.out.below hb4
    have TF4:=HTF.out.below hb4
    obtain ⟨L,hL⟩:∃ L,L=lay (pmS ms) 0 c k:=⟨_,rfl⟩
    rw [← hL] at LO ⊢
    have HLL:=hide hL
    have al:Below w4.heap.size w4 (w4.alloc (.cells #[.slice a0 xs.length d0,.int .i64 L.stack,.slice a2 L.slots.length d2,.int .i64 L.flash,.int .i64 L.ram,.slice none 0 0] 32)):=(Below.refl _ _).alloc (Nat.le_refl _) _
    have kL:=Blk.new w4 #[.slice a0 xs.length d0,.int .i64 L.stack,.slice a2 L.slots.length d2,.int .i64 L.flash,.int .i64 L.ram,.slice none 0 0] 32
    have S5:=S4.below al
    have TF5:=TF4.below al
    have hs34:=hb4.size
    have hs3:=HS.out.k1.lt
    have hgt:=HTF.out.lt.1
    have LO5:LayO (w4.alloc (.cells #[.slice a0 xs.length d0,.int .i64 L.stack,.slice a2 L.slots.length d2,.int .i64 L.flash,.int .i64 L.ram,.slice none 0 0] 32)) w3.heap.size ⟨L.places,L.stack,L.slots,L.flash,L.ram,[]⟩ a0 d0 xs a2 d2 none 0 []:=⟨LO.p.below al,LO.ps,LO.s.below al,LO.t.below al,LO.tt,LO.sp⟩
    have alM:Below w4.heap.size w4 (w4.alloc (.cells #[.slice a0 xs.length d0,.int .i64 L.stack,.slice a2 L.slots.length d2,.int .i64 L.flash,.int .i64 L.ram,.slice (some ⟨gt,0,none⟩) n n] 32)):=(Below.refl _ _).alloc (Nat.le_refl _) _
    have kM:=Blk.new w4 #[.slice a0 xs.length d0,.int .i64 L.stack,.slice a2 L.slots.length d2,.int .i64 L.flash,.int .i64 L.ram,.slice (some ⟨gt,0,none⟩) n n] 32
    have S6:=S4.below alM
    have TF6:=TF4.below alM
    have LO6:LayO (w4.alloc (.cells #[.slice a0 xs.length d0,.int .i64 L.stack,.slice a2 L.slots.length d2,.int .i64 L.flash,.int .i64 L.ram,.slice (some ⟨gt,0,none⟩) n n] 32)) w3.heap.size ⟨L.places,L.stack,L.slots,L.flash,L.ram,[]⟩ a0 d0 xs a2 d2 none 0 []:=⟨LO.p.below alM,LO.ps,LO.s.below alM,LO.t.below alM,LO.tt,LO.sp⟩
    have l0:(w4.alloc (.cells #[.slice a0 xs.length d0,.int .i64 L.stack,.slice a2 L.slots.length d2,.int .i64 L.flash,.int .i64 L.ram,.slice none 0 0] 32)).cell? ⟨w4.heap.size,0,none⟩=some (.slice a0 xs.length d0):=kL.cell 0
    have l1:(w4.alloc (.cells #[.slice a0 xs.length d0,.int .i64 L.stack,.slice a2 L.slots.length d2,.int .i64 L.flash,.int .i64 L.ram,.slice none 0 0] 32)).cell? ⟨w4.heap.size,1,none⟩=some (.int .i64 L.stack):=kL.cell 1
    have l2:(w4.alloc (.cells #[.slice a0 xs.length d0,.int .i64 L.stack,.slice a2 L.slots.length d2,.int .i64 L.flash,.int .i64 L.ram,.slice none 0 0] 32)).cell? ⟨w4.heap.size,2,none⟩=some (.slice a2 L.slots.length d2):=kL.cell 2
    have l3:(w4.alloc (.cells #[.slice a0 xs.length d0,.int .i64 L.stack,.slice a2 L.slots.length d2,.int .i64 L.flash,.int .i64 L.ram,.slice none 0 0] 32)).cell? ⟨w4.heap.size,3,none⟩=some (.int .i64 L.flash):=kL.cell 3
    have l4:(w4.alloc (.cells #[.slice a0 xs.length d0,.int .i64 L.stack,.slice a2 L.slots.length d2,.int .i64 L.flash,.int .i64 L.ram,.slice none 0 0] 32)).cell? ⟨w4.heap.size,4,none⟩=some (.int .i64 L.ram):=kL.cell 4
    have l5:(w4.alloc (.cells #[.slice a0 xs.length d0,.int .i64 L.stack,.slice a2 L.slots.length d2,.int .i64 L.flash,.int .i64 L.ram,.slice none 0 0] 32)).cell? ⟨w4.heap.size,5,none⟩=some (.slice none 0 0):=kL.cell 5
    have n5:=kL.frozen 5
    have HKL:=hide kM
    have m0:(w4.alloc (.cells #[.slice a0 xs.length d0,.int .i64 L.stack,.slice a2 L.slots.length d2,.int .i64 L.flash,.int .i64 L.ram,.slice (some ⟨gt,0,none⟩) n n] 32)).cell? ⟨w4.heap.size,0,none⟩=some (.slice a0 xs.length d0):=kM.cell 0
    have m1:(w4.alloc (.cells #[.slice a0 xs.length d0,.int .i64 L.stack,.slice a2 L.slots.length d2,.int .i64 L.flash,.int .i64 L.ram,.slice (some ⟨gt,0,none⟩) n n] 32)).cell? ⟨w4.heap.size,1,none⟩=some (.int .i64 L.stack):=kM.cell 1
    have m2:(w4.alloc (.cells #[.slice a0 xs.length d0,.int .i64 L.stack,.slice a2 L.slots.length d2,.int .i64 L.flash,.int .i64 L.ram,.slice (some ⟨gt,0,none⟩) n n] 32)).cell? ⟨w4.heap.size,2,none⟩=some (.slice a2 L.slots.length d2):=kM.cell 2
    have m3:(w4.alloc (.cells #[.slice a0 xs.length d0,.int .i64 L.stack,.slice a2 L.slots.length d2,.int .i64 L.flash,.int .i64 L.ram,.slice (some ⟨gt,0,none⟩) n n] 32)).cell? ⟨w4.heap.size,3,none⟩=some (.int .i64 L.flash):=kM.cell 3
    have m4:(w4.alloc (.cells #[.slice a0 xs.length d0,.int .i64 L.stack,.slice a2 L.slots.length d2,.int .i64 L.flash,.int .i64 L.ram,.slice (some ⟨gt,0,none⟩) n n] 32)).cell? ⟨w4.heap.size,4,none⟩=some (.int .i64 L.ram):=kM.cell 4
    have m5:(w4.alloc (.cells #[.slice a0 xs.length d0,.int .i64 L.stack,.slice a2 L.slots.length d2,.int .i64 L.flash,.int .i64 L.ram,.slice (some ⟨gt,0,none⟩) n n] 32)).cell? ⟨w4.heap.size,5,none⟩=some (.slice (some ⟨gt,0,none⟩) n n):=kM.cell 5
    have HS5:=hide (And.intro S5 (And.intro LO6 (And.intro TF6 S6)))
    clear hb4 S4 TF4 LO al kL hL HS HTF HLA c0 c1 c2 c3 alM kM TF5 LO5
    unfold layV
    by_cases h7:16384<L.flash
    ·have HP:=hide (lkc_7 (d:=d) HS4.out HI.out HN6.out (by rw [← HLL.out];exact h7))
     have p0:(w4.alloc (.cells #[.slice a0 xs.length d0,.int .i64 L.stack,.slice a2 L.slots.length d2,.int .i64 L.flash,.int .i64 L.ram,.slice none 0 0] 32)).cell? ⟨w.heap.size+1,0,none⟩=some (.slice none 0 0):=S5.k1.cell 0
     have p1:(w4.alloc (.cells #[.slice a0 xs.length d0,.int .i64 L.stack,.slice a2 L.slots.length d2,.int .i64 L.flash,.int .i64 L.ram,.slice none 0 0] 32)).cell? ⟨w.heap.size+1,1,none⟩=some (.int .i64 0):=S5.k1.cell 1
     have p2:(w4.alloc (.cells #[.slice a0 xs.length d0,.int .i64 L.stack,.slice a2 L.slots.length d2,.int .i64 L.flash,.int .i64 L.ram,.slice none 0 0] 32)).cell? ⟨w.heap.size+1,2,none⟩=some (.slice none 0 0):=S5.k1.cell 2
     have p3:(w4.alloc (.cells #[.slice a0 xs.length d0,.int .i64 L.stack,.slice a2 L.slots.length d2,.int .i64 L.flash,.int .i64 L.ram,.slice none 0 0] 32)).cell? ⟨w.heap.size+1,3,none⟩=some (.int .i64 0):=S5.k1.cell 3
     have p4:(w4.alloc (.cells #[.slice a0 xs.length d0,.int .i64 L.stack,.slice a2 L.slots.length d2,.int .i64 L.flash,.int .i64 L.ram,.slice none 0 0] 32)).cell? ⟨w.heap.size+1,4,none⟩=some (.int .i64 0):=S5.k1.cell 4
     have p5:(w4.alloc (.cells #[.slice a0 xs.length d0,.int .i64 L.stack,.slice a2 L.slots.length d2,.int .i64 L.flash,.int .i64 L.ram,.slice none 0 0] 32)).cell? ⟨w.heap.size+1,5,none⟩=some (.slice none 0 0):=S5.k1.cell 5
     have y0:(w4.alloc (.cells #[.slice a0 xs.length d0,.int .i64 L.stack,.slice a2 L.slots.length d2,.int .i64 L.flash,.int .i64 L.ram,.slice none 0 0] 32)).frozen? ⟨w.heap.size+1,0,none⟩=false:=S5.k1.frozen 0
     have y1:(w4.alloc (.cells #[.slice a0 xs.length d0,.int .i64 L.stack,.slice a2 L.slots.length d2,.int .i64 L.flash,.int .i64 L.ram,.slice none 0 0] 32)).frozen? ⟨w.heap.size+1,1,none⟩=false:=S5.k1.frozen 1
     have y2:(w4.alloc (.cells #[.slice a0 xs.length d0,.int .i64 L.stack,.slice a2 L.slots.length d2,.int .i64 L.flash,.int .i64 L.ram,.slice none 0 0] 32)).frozen? ⟨w.heap.size+1,2,none⟩=false:=S5.k1.frozen 2
     have y3:(w4.alloc (.cells #[.slice a0 xs.length d0,.int .i64 L.stack,.slice a2 L.slots.length d2,.int .i64 L.flash,.int .i64 L.ram,.slice none 0 0] 32)).frozen? ⟨w.heap.size+1,3,none⟩=false:=S5.k1.frozen 3
     have y4:(w4.alloc (.cells #[.slice a0 xs.length d0,.int .i64 L.stack,.slice a2 L.slots.length d2,.int .i64 L.flash,.int .i64 L.ram,.slice none 0 0] 32)).frozen? ⟨w.heap.size+1,4,none⟩=false:=S5.k1.frozen 4
     have y5:(w4.alloc (.cells #[.slice a0 xs.length d0,.int .i64 L.stack,.slice a2 L.slots.length d2,.int .i64 L.flash,.int .i64 L.ram,.slice none 0 0] 32)).frozen? ⟨w.heap.size+1,5,none⟩=false:=S5.k1.frozen 5
     clear S5 S6 LO6 TF6
     go_wp2
     exact link_noI HS5.out.1 HP.out (by decide) _ rfl rfl
    ·have h7':¬ 16384<L.flash:=h7
     by_cases h8:16384<L.ram
     ·have HP:=hide (lkc_8 (d:=d) HS4.out HI.out HN6.out (by rw [← HLL.out];exact h7) (by rw [← HLL.out];exact h8))
      have p0:(w4.alloc (.cells #[.slice a0 xs.length d0,.int .i64 L.stack,.slice a2 L.slots.length d2,.int .i64 L.flash,.int .i64 L.ram,.slice none 0 0] 32)).cell? ⟨w.heap.size+1,0,none⟩=some (.slice none 0 0):=S5.k1.cell 0
      have p1:(w4.alloc (.cells #[.slice a0 xs.length d0,.int .i64 L.stack,.slice a2 L.slots.length d2,.int .i64 L.flash,.int .i64 L.ram,.slice none 0 0] 32)).cell? ⟨w.heap.size+1,1,none⟩=some (.int .i64 0):=S5.k1.cell 1
      have p2:(w4.alloc (.cells #[.slice a0 xs.length d0,.int .i64 L.stack,.slice a2 L.slots.length d2,.int .i64 L.flash,.int .i64 L.ram,.slice none 0 0] 32)).cell? ⟨w.heap.size+1,2,none⟩=some (.slice none 0 0):=S5.k1.cell 2
      have p3:(w4.alloc (.cells #[.slice a0 xs.length d0,.int .i64 L.stack,.slice a2 L.slots.length d2,.int .i64 L.flash,.int .i64 L.ram,.slice none 0 0] 32)).cell? ⟨w.heap.size+1,3,none⟩=some (.int .i64 0):=S5.k1.cell 3
      have p4:(w4.alloc (.cells #[.slice a0 xs.length d0,.int .i64 L.stack,.slice a2 L.slots.length d2,.int .i64 L.flash,.int .i64 L.ram,.slice none 0 0] 32)).cell? ⟨w.heap.size+1,4,none⟩=some (.int .i64 0):=S5.k1.cell 4
      have p5:(w4.alloc (.cells #[.slice a0 xs.length d0,.int .i64 L.stack,.slice a2 L.slots.length d2,.int .i64 L.flash,.int .i64 L.ram,.slice none 0 0] 32)).cell? ⟨w.heap.size+1,5,none⟩=some (.slice none 0 0):=S5.k1.cell 5
      have y0:(w4.alloc (.cells #[.slice a0 xs.length d0,.int .i64 L.stack,.slice a2 L.slots.length d2,.int .i64 L.flash,.int .i64 L.ram,.slice none 0 0] 32)).frozen? ⟨w.heap.size+1,0,none⟩=false:=S5.k1.frozen 0
      have y1:(w4.alloc (.cells #[.slice a0 xs.length d0,.int .i64 L.stack,.slice a2 L.slots.length d2,.int .i64 L.flash,.int .i64 L.ram,.slice none 0 0] 32)).frozen? ⟨w.heap.size+1,1,none⟩=false:=S5.k1.frozen 1
      have y2:(w4.alloc (.cells #[.slice a0 xs.length d0,.int .i64 L.stack,.slice a2 L.slots.length d2,.int .i64 L.flash,.int .i64 L.ram,.slice none 0 0] 32)).frozen? ⟨w.heap.size+1,2,none⟩=false:=S5.k1.frozen 2
      have y3:(w4.alloc (.cells #[.slice a0 xs.length d0,.int .i64 L.stack,.slice a2 L.slots.length d2,.int .i64 L.flash,.int .i64 L.ram,.slice none 0 0] 32)).frozen? ⟨w.heap.size+1,3,none⟩=false:=S5.k1.frozen 3
      have y4:(w4.alloc (.cells #[.slice a0 xs.length d0,.int .i64 L.stack,.slice a2 L.slots.length d2,.int .i64 L.flash,.int .i64 L.ram,.slice none 0 0] 32)).frozen? ⟨w.heap.size+1,4,none⟩=false:=S5.k1.frozen 4
      have y5:(w4.alloc (.cells #[.slice a0 xs.length d0,.int .i64 L.stack,.slice a2 L.slots.length d2,.int .i64 L.flash,.int .i64 L.ram,.slice none 0 0] 32)).frozen? ⟨w.heap.size+1,5,none⟩=false:=S5.k1.frozen 5
      clear S5 S6 LO6 TF6
      go_wp2
      exact link_noI HS5.out.1 HP.out (by decide) _ rfl rfl
     ·have HP:=hide (lkc_0 (d:=d) HS4.out HI.out HN6.out (by rw [← HLL.out];exact h7) (by rw [← HLL.out];exact h8))
      have p0:(w4.alloc (.cells #[.slice a0 xs.length d0,.int .i64 L.stack,.slice a2 L.slots.length d2,.int .i64 L.flash,.int .i64 L.ram,.slice (some ⟨gt,0,none⟩) n n] 32)).cell? ⟨w.heap.size+1,0,none⟩=some (.slice none 0 0):=S6.k1.cell 0
      have p1:(w4.alloc (.cells #[.slice a0 xs.length d0,.int .i64 L.stack,.slice a2 L.slots.length d2,.int .i64 L.flash,.int .i64 L.ram,.slice (some ⟨gt,0,none⟩) n n] 32)).cell? ⟨w.heap.size+1,1,none⟩=some (.int .i64 0):=S6.k1.cell 1
      have p2:(w4.alloc (.cells #[.slice a0 xs.length d0,.int .i64 L.stack,.slice a2 L.slots.length d2,.int .i64 L.flash,.int .i64 L.ram,.slice (some ⟨gt,0,none⟩) n n] 32)).cell? ⟨w.heap.size+1,2,none⟩=some (.slice none 0 0):=S6.k1.cell 2
      have p3:(w4.alloc (.cells #[.slice a0 xs.length d0,.int .i64 L.stack,.slice a2 L.slots.length d2,.int .i64 L.flash,.int .i64 L.ram,.slice (some ⟨gt,0,none⟩) n n] 32)).cell? ⟨w.heap.size+1,3,none⟩=some (.int .i64 0):=S6.k1.cell 3
      have p4:(w4.alloc (.cells #[.slice a0 xs.length d0,.int .i64 L.stack,.slice a2 L.slots.length d2,.int .i64 L.flash,.int .i64 L.ram,.slice (some ⟨gt,0,none⟩) n n] 32)).cell? ⟨w.heap.size+1,4,none⟩=some (.int .i64 0):=S6.k1.cell 4
      have p5:(w4.alloc (.cells #[.slice a0 xs.length d0,.int .i64 L.stack,.slice a2 L.slots.length d2,.int .i64 L.flash,.int .i64 L.ram,.slice (some ⟨gt,0,none⟩) n n] 32)).cell? ⟨w.heap.size+1,5,none⟩=some (.slice none 0 0):=S6.k1.cell 5
      have y0:(w4.alloc (.cells #[.slice a0 xs.length d0,.int .i64 L.stack,.slice a2 L.slots.length d2,.int .i64 L.flash,.int .i64 L.ram,.slice (some ⟨gt,0,none⟩) n n] 32)).frozen? ⟨w.heap.size+1,0,none⟩=false:=S6.k1.frozen 0
      have y1:(w4.alloc (.cells #[.slice a0 xs.length d0,.int .i64 L.stack,.slice a2 L.slots.length d2,.int .i64 L.flash,.int .i64 L.ram,.slice (some ⟨gt,0,none⟩) n n] 32)).frozen? ⟨w.heap.size+1,1,none⟩=false:=S6.k1.frozen 1
      have y2:(w4.alloc (.cells #[.slice a0 xs.length d0,.int .i64 L.stack,.slice a2 L.slots.length d2,.int .i64 L.flash,.int .i64 L.ram,.slice (some ⟨gt,0,none⟩) n n] 32)).frozen? ⟨w.heap.size+1,2,none⟩=false:=S6.k1.frozen 2
      have y3:(w4.alloc (.cells #[.slice a0 xs.length d0,.int .i64 L.stack,.slice a2 L.slots.length d2,.int .i64 L.flash,.int .i64 L.ram,.slice (some ⟨gt,0,none⟩) n n] 32)).frozen? ⟨w.heap.size+1,3,none⟩=false:=S6.k1.frozen 3
      have y4:(w4.alloc (.cells #[.slice a0 xs.length d0,.int .i64 L.stack,.slice a2 L.slots.length d2,.int .i64 L.flash,.int .i64 L.ram,.slice (some ⟨gt,0,none⟩) n n] 32)).frozen? ⟨w.heap.size+1,4,none⟩=false:=S6.k1.frozen 4
      have y5:(w4.alloc (.cells #[.slice a0 xs.length d0,.int .i64 L.stack,.slice a2 L.slots.length d2,.int .i64 L.flash,.int .i64 L.ram,.slice (some ⟨gt,0,none⟩) n n] 32)).frozen? ⟨w.heap.size+1,5,none⟩=false:=S6.k1.frozen 5
      clear S5 S6 LO6 TF6
      go_wp2
      refine link_endI HS5.out.2.2.2.k1 _ _ _ _ _ _ 0 _ _ rfl rfl ?_
      obtain ⟨S5,LO5,TF5,S6⟩:=HS5.out
      have t:=turn_st6 (w4.alloc (.cells #[.slice a0 xs.length d0,.int .i64 L.stack,.slice a2 L.slots.length d2,.int .i64 L.flash,.int .i64 L.ram,.slice (some ⟨gt,0,none⟩) n n] 32)) (w.heap.size+1) (.slice a0 xs.length d0) (.int .i64 L.stack) (.slice a2 L.slots.length d2) (.int .i64 L.flash) (.int .i64 L.ram) (.slice (some ⟨gt,0,none⟩) n n)
      have OT:=TF5.otg (c:=n) (Nat.le_refl _) (by unfold maxLen;omega) rfl
      have key:∀ (base sz nn:Nat) (ty:TypeId) (v:Value) (ys:List Value),(w4.alloc (.cells #[.slice a0 xs.length d0,.int .i64 L.stack,.slice a2 L.slots.length d2,.int .i64 L.flash,.int .i64 L.ram,.slice (some ⟨gt,0,none⟩) n n] 32)).ownsRow base ty sz v nn ys→ty≠32→∀ j,v.ownBlock=some j→¬ (fun j=>j=w.heap.size+1) j:=fun base sz nn ty v ys ho hne j hj e=>by
       have e':j=w.heap.size+1:=e
       subst e'
       exact kind_no ho hj S6.k1 hne
      refine ⟨below_turn S6.be (turn_st6 _ _ _ _ _ _ _ _) (fun j hj=>by have e:j=w.heap.size+1:=hj;omega) S6.be.size,a0,d0,xs,a2,d2,some ⟨gt,0,none⟩,n,(List.range n).map f,?_,?_⟩
      ·unfold lkL layV;rw [if_pos HP.out,HP.out,← HLL.out];simp
      ·unfold lkL;rw [if_pos HP.out,← HLL.out]
       exact ⟨(LO5.p.kept t (key _ _ _ _ _ _ LO5.p.head (by decide)) (fun x hx=>key _ _ _ _ _ _ (LO5.p.rows x hx) (by decide))).mono (by omega) (by omega),LO5.ps,(LO5.s.kept t (key _ _ _ _ _ _ LO5.s (by decide))).mono (by omega),(OT.kept t (key _ _ _ _ _ _ OT.head (by decide)) (fun x hx=>key _ _ _ _ _ _ (OT.rows x hx) (by decide))).mono (by omega) (by omega),by rw [HLL.out];unfold lay;rw [hpl,List.map_map];exact List.map_congr_left (fun i hi=>HFE.out i (by simpa using hi)),LO5.sp⟩
   ·have hsn:(s != 0)=true:=by simp [hsz]
    have HGB:=hide (fun (W:World) (hb:Below w.heap.size w W)=>greatestBank_any a n cap ms W (HH.out.below hb) HVL.out h4)
    go_wp2_with fail
    go_region_law (first
     | (go_simp;go_at_call 60;refine (HGB.out _ (by first | exact HS2.out.be | exact HS2.out.drew.be)).mono ?_;rintro e wa ⟨R,rfl,hG,hba⟩;have HSA:=hide (show Kin w wa s c k d from (by first | exact HS2.out.below hba | exact HS2.out.drew.below hba));have HTB:=hide (show Tf wa gt gt n f from (by first | exact HTF0.out.below hba | exact Tf.below (w:=w2.drew) ⟨HTF0.out.head,HTF0.out.rows,HTF0.out.apart⟩ hba));have e1:wa.cell? ⟨w.heap.size,1,none⟩=some (.int .i64 c):=HSA.out.k0.cell 1;have HG:=hide hG;clear hba hG))
    all_goals
     have HS:=HSA
     have HTF:=HTB
     clear HS2 HTF0 c0 c1 c2 c3 HSA HTB e1 HGB
     generalize wa=w3 at *
     by_cases h6:c<(R:Int)
     ·have HP:=hide (lkc_6 (d:=d) (k:=k) HS4.out HI.out ⟨by omega,(gb_shrt HG.out c hc0).1 h6⟩)
      have S3:=HS.out
      have p0:w3.cell? ⟨w.heap.size+1,0,none⟩=some (.slice none 0 0):=S3.k1.cell 0
      have p1:w3.cell? ⟨w.heap.size+1,1,none⟩=some (.int .i64 0):=S3.k1.cell 1
      have p2:w3.cell? ⟨w.heap.size+1,2,none⟩=some (.slice none 0 0):=S3.k1.cell 2
      have p3:w3.cell? ⟨w.heap.size+1,3,none⟩=some (.int .i64 0):=S3.k1.cell 3
      have p4:w3.cell? ⟨w.heap.size+1,4,none⟩=some (.int .i64 0):=S3.k1.cell 4
      have p5:w3.cell? ⟨w.heap.size+1,5,none⟩=some (.slice none 0 0):=S3.k1.cell 5
      have y0:w3.frozen? ⟨w.heap.size+1,0,none⟩=false:=S3.k1.frozen 0
      have y1:w3.frozen? ⟨w.heap.size+1,1,none⟩=false:=S3.k1.frozen 1
      have y2:w3.frozen? ⟨w.heap.size+1,2,none⟩=false:=S3.k1.frozen 2
      have y3:w3.frozen? ⟨w.heap.size+1,3,none⟩=false:=S3.k1.frozen 3
      have y4:w3.frozen? ⟨w.heap.size+1,4,none⟩=false:=S3.k1.frozen 4
      have y5:w3.frozen? ⟨w.heap.size+1,5,none⟩=false:=S3.k1.frozen 5
      clear S3
      go_wp2
      exact link_noI HS.out HP.out (by decide) _ rfl rfl
     ·have HN6:=hide (show ¬ (0<s∧¬ shrt (pmS ms) c) from fun e=>h6 ((gb_shrt HG.out c hc0).2 e.2))
      have h6':¬ c<(R:Int):=h6
      have HLA:=hide (layOut_any a n cap ms s c k d w3 (HH.out.below HS.out.be) h4 HCF.out HVL.out)
      have c0:w3.cell? ⟨w.heap.size,0,none⟩=some (.int .i64 s):=HS.out.k0.cell 0
      have c1:w3.cell? ⟨w.heap.size,1,none⟩=some (.int .i64 c):=HS.out.k0.cell 1
      have c2:w3.cell? ⟨w.heap.size,2,none⟩=some (.int .i64 k):=HS.out.k0.cell 2
      have c3:w3.cell? ⟨w.heap.size,3,none⟩=some (.int .i64 d):=HS.out.k0.cell 3
      go_wp2_with fail
      refine HLA.out.mono ?_
      rintro e w4 ⟨hb4,a0,d0,xs,a2,d2,rfl,LO⟩
      have S4:=HS.out.below hb4
      have TF4:=HTF.out.below hb4
      obtain ⟨L,hL⟩:∃ L,L=lay (pmS ms) s c k:=⟨_,rfl⟩
      rw [← hL] at LO ⊢
      have HLL:=hide hL
      have al:Below w4.heap.size w4 (w4.alloc (.cells #[.slice a0 xs.length d0,.int .i64 L.stack,.slice a2 L.slots.length d2,.int .i64 L.flash,.int .i64 L.ram,.slice none 0 0] 32)):=(Below.refl _ _).alloc (Nat.le_refl _) _
      have kL:=Blk.new w4 #[.slice a0 xs.length d0,.int .i64 L.stack,.slice a2 L.slots.length d2,.int .i64 L.flash,.int .i64 L.ram,.slice none 0 0] 32
      have S5:=S4.below al
      have TF5:=TF4.below al
      have hs34:=hb4.size
      have hs3:=HS.out.k1.lt
      have hgt:=HTF.out.lt.1
      have LO5:LayO (w4.alloc (.cells #[.slice a0 xs.length d0,.int .i64 L.stack,.slice a2 L.slots.length d2,.int .i64 L.flash,.int .i64 L.ram,.slice none 0 0] 32)) w3.heap.size ⟨L.places,L.stack,L.slots,L.flash,L.ram,[]⟩ a0 d0 xs a2 d2 none 0 []:=⟨LO.p.below al,LO.ps,LO.s.below al,LO.t.below al,LO.tt,LO.sp⟩
      have alM:Below w4.heap.size w4 (w4.alloc (.cells #[.slice a0 xs.length d0,.int .i64 L.stack,.slice a2 L.slots.length d2,.int .i64 L.flash,.int .i64 L.ram,.slice (some ⟨gt,0,none⟩) n n] 32)):=(Below.refl _ _).alloc (Nat.le_refl _) _
      have kM:=Blk.new w4 #[.slice a0 xs.length d0,.int .i64 L.stack,.slice a2 L.slots.length d2,.int .i64 L.flash,.int .i64 L.ram,.slice (some ⟨gt,0,none⟩) n n] 32
      have S6:=S4.below alM
      have TF6:=TF4.below alM
      have LO6:LayO (w4.alloc (.cells #[.slice a0 xs.length d0,.int .i64 L.stack,.slice a2 L.slots.length d2,.int .i64 L.flash,.int .i64 L.ram,.slice (some ⟨gt,0,none⟩) n n] 32)) w3.heap.size ⟨L.places,L.stack,L.slots,L.flash,L.ram,[]⟩ a0 d0 xs a2 d2 none 0 []:=⟨LO.p.below alM,LO.ps,LO.s.below alM,LO.t.below alM,LO.tt,LO.sp⟩
      have l0:(w4.alloc (.cells #[.slice a0 xs.length d0,.int .i64 L.stack,.slice a2 L.slots.length d2,.int .i64 L.flash,.int .i64 L.ram,.slice none 0 0] 32)).cell? ⟨w4.heap.size,0,none⟩=some (.slice a0 xs.length d0):=kL.cell 0
      have l1:(w4.alloc (.cells #[.slice a0 xs.length d0,.int .i64 L.stack,.slice a2 L.slots.length d2,.int .i64 L.flash,.int .i64 L.ram,.slice none 0 0] 32)).cell? ⟨w4.heap.size,1,none⟩=some (.int .i64 L.stack):=kL.cell 1
      have l2:(w4.alloc (.cells #[.slice a0 xs.length d0,.int .i64 L.stack,.slice a2 L.slots.length d2,.int .i64 L.flash,.int .i64 L.ram,.slice none 0 0] 32)).cell? ⟨w4.heap.size,2,none⟩=some (.slice a2 L.slots.length d2):=kL.cell 2
      have l3:(w4.alloc (.cells #[.slice a0 xs.length d0,.int .i64 L.stack,.slice a2 L.slots.length d2,.int .i64 L.flash,.int .i64 L.ram,.slice none 0 0] 32)).cell? ⟨w4.heap.size,3,none⟩=some (.int .i64 L.flash):=kL.cell 3
      have l4:(w4.alloc (.cells #[.slice a0 xs.length d0,.int .i64 L.stack,.slice a2 L.slots.length d2,.int .i64 L.flash,.int .i64 L.ram,.slice none 0 0] 32)).cell? ⟨w4.heap.size,4,none⟩=some (.int .i64 L.ram):=kL.cell 4
      have l5:(w4.alloc (.cells #[.slice a0 xs.length d0,.int .i64 L.stack,.slice a2 L.slots.length d2,.int .i64 L.flash,.int .i64 L.ram,.slice none 0 0] 32)).cell? ⟨w4.heap.size,5,none⟩=some (.slice none 0 0):=kL.cell 5
      have n5:=kL.frozen 5
      have HKL:=hide kM
      have m0:(w4.alloc (.cells #[.slice a0 xs.length d0,.int .i64 L.stack,.slice a2 L.slots.length d2,.int .i64 L.flash,.int .i64 L.ram,.slice (some ⟨gt,0,none⟩) n n] 32)).cell? ⟨w4.heap.size,0,none⟩=some (.slice a0 xs.length d0):=kM.cell 0
      have m1:(w4.alloc (.cells #[.slice a0 xs.length d0,.int .i64 L.stack,.slice a2 L.slots.length d2,.int .i64 L.flash,.int .i64 L.ram,.slice (some ⟨gt,0,none⟩) n n] 32)).cell? ⟨w4.heap.size,1,none⟩=some (.int .i64 L.stack):=kM.cell 1
      have m2:(w4.alloc (.cells #[.slice a0 xs.length d0,.int .i64 L.stack,.slice a2 L.slots.length d2,.int .i64 L.flash,.int .i64 L.ram,.slice (some ⟨gt,0,none⟩) n n] 32)).cell? ⟨w4.heap.size,2,none⟩=some (.slice a2 L.slots.length d2):=kM.cell 2
      have m3:(w4.alloc (.cells #[.slice a0 xs.length d0,.int .i64 L.stack,.slice a2 L.slots.length d2,.int .i64 L.flash,.int .i64 L.ram,.slice (some ⟨gt,0,none⟩) n n] 32)).cell? ⟨w4.heap.size,3,none⟩=some (.int .i64 L.flash):=kM.cell 3
      have m4:(w4.alloc (.cells #[.slice a0 xs.length d0,.int .i64 L.stack,.slice a2 L.slots.length d2,.int .i64 L.flash,.int .i64 L.ram,.slice (some ⟨gt,0,none⟩) n n] 32)).cell? ⟨w4.heap.size,4,none⟩=some (.int .i64 L.ram):=kM.cell 4
      have m5:(w4.alloc (.cells #[.slice a0 xs.length d0,.int .i64 L.stack,.slice a2 L.slots.length d2,.int .i64 L.flash,.int .i64 L.ram,.slice (some ⟨gt,0,none⟩) n n] 32)).cell? ⟨w4.heap.size,5,none⟩=some (.slice (some ⟨gt,0,none⟩) n n):=kM.cell 5
      have HS5:=hide (And.intro S5 (And.intro LO6 (And.intro TF6 S6)))
      clear hb4 S4 TF4 LO al kL hL HS HTF HLA c0 c1 c2 c3 alM kM TF5 LO5
      unfold layV
      by_cases h7:16384<L.flash
      ·have HP:=hide (lkc_7 (d:=d) HS4.out HI.out HN6.out (by rw [← HLL.out];exact h7))
       have p0:(w4.alloc (.cells #[.slice a0 xs.length d0,.int .i64 L.stack,.slice a2 L.slots.length d2,.int .i64 L.flash,.int .i64 L.ram,.slice none 0 0] 32)).cell? ⟨w.heap.size+1,0,none⟩=some (.slice none 0 0):=S5.k1.cell 0
       have p1:(w4.alloc (.cells #[.slice a0 xs.length d0,.int .i64 L.stack,.slice a2 L.slots.length d2,.int .i64 L.flash,.int .i64 L.ram,.slice none 0 0] 32)).cell? ⟨w.heap.size+1,1,none⟩=some (.int .i64 0):=S5.k1.cell 1
       have p2:(w4.alloc (.cells #[.slice a0 xs.length d0,.int .i64 L.stack,.slice a2 L.slots.length d2,.int .i64 L.flash,.int .i64 L.ram,.slice none 0 0] 32)).cell? ⟨w.heap.size+1,2,none⟩=some (.slice none 0 0):=S5.k1.cell 2
       have p3:(w4.alloc (.cells #[.slice a0 xs.length d0,.int .i64 L.stack,.slice a2 L.slots.length d2,.int .i64 L.flash,.int .i64 L.ram,.slice none 0 0] 32)).cell? ⟨w.heap.size+1,3,none⟩=some (.int .i64 0):=S5.k1.cell 3
       have p4:(w4.alloc (.cells #[.slice a0 xs.length d0,.int .i64 L.stack,.slice a2 L.slots.length d2,.int .i64 L.flash,.int .i64 L.ram,.slice none 0 0] 32)).cell? ⟨w.heap.size+1,4,none⟩=some (.int .i64 0):=S5.k1.cell 4
       have p5:(w4.alloc (.cells #[.slice a0 xs.length d0,.int .i64 L.stack,.slice a2 L.slots.length d2,.int .i64 L.flash,.int .i64 L.ram,.slice none 0 0] 32)).cell? ⟨w.heap.size+1,5,none⟩=some (.slice none 0 0):=S5.k1.cell 5
       have y0:(w4.alloc (.cells #[.slice a0 xs.length d0,.int .i64 L.stack,.slice a2 L.slots.length d2,.int .i64 L.flash,.int .i64 L.ram,.slice none 0 0] 32)).frozen? ⟨w.heap.size+1,0,none⟩=false:=S5.k1.frozen 0
       have y1:(w4.alloc (.cells #[.slice a0 xs.length d0,.int .i64 L.stack,.slice a2 L.slots.length d2,.int .i64 L.flash,.int .i64 L.ram,.slice none 0 0] 32)).frozen? ⟨w.heap.size+1,1,none⟩=false:=S5.k1.frozen 1
       have y2:(w4.alloc (.cells #[.slice a0 xs.length d0,.int .i64 L.stack,.slice a2 L.slots.length d2,.int .i64 L.flash,.int .i64 L.ram,.slice none 0 0] 32)).frozen? ⟨w.heap.size+1,2,none⟩=false:=S5.k1.frozen 2
       have y3:(w4.alloc (.cells #[.slice a0 xs.length d0,.int .i64 L.stack,.slice a2 L.slots.length d2,.int .i64 L.flash,.int .i64 L.ram,.slice none 0 0] 32)).frozen? ⟨w.heap.size+1,3,none⟩=false:=S5.k1.frozen 3
       have y4:(w4.alloc (.cells #[.slice a0 xs.length d0,.int .i64 L.stack,.slice a2 L.slots.length d2,.int .i64 L.flash,.int .i64 L.ram,.slice none 0 0] 32)).frozen? ⟨w.heap.size+1,4,none⟩=false:=S5.k1.frozen 4
       have y5:(w4.alloc (.cells #[.slice a0 xs.length d0,.int .i64 L.stack,.slice a2 L.slots.length d2,.int .i64 L.flash,.int .i64 L.ram,.slice none 0 0] 32)).frozen? ⟨w.heap.size+1,5,none⟩=false:=S5.k1.frozen 5
       clear S5 S6 LO6 TF6
       go_wp2
       exact link_noI HS5.out.1 HP.out (by decide) _ rfl rfl
      ·have h7':¬ 16384<L.flash:=h7
       by_cases h8:16384<L.ram
       ·have HP:=hide (lkc_8 (d:=d) HS4.out HI.out HN6.out (by rw [← HLL.out];exact h7) (by rw [← HLL.out];exact h8))
        have p0:(w4.alloc (.cells #[.slice a0 xs.length d0,.int .i64 L.stack,.slice a2 L.slots.length d2,.int .i64 L.flash,.int .i64 L.ram,.slice none 0 0] 32)).cell? ⟨w.heap.size+1,0,none⟩=some (.slice none 0 0):=S5.k1.cell 0
        have p1:(w4.alloc (.cells #[.slice a0 xs.length d0,.int .i64 L.stack,.slice a2 L.slots.length d2,.int .i64 L.flash,.int .i64 L.ram,.slice none 0 0] 32)).cell? ⟨w.heap.size+1,1,none⟩=some (.int .i64 0):=S5.k1.cell 1
        have p2:(w4.alloc (.cells #[.slice a0 xs.length d0,.int .i64 L.stack,.slice a2 L.slots.length d2,.int .i64 L.flash,.int .i64 L.ram,.slice none 0 0] 32)).cell? ⟨w.heap.size+1,2,none⟩=some (.slice none 0 0):=S5.k1.cell 2
        have p3:(w4.alloc (.cells #[.slice a0 xs.length d0,.int .i64 L.stack,.slice a2 L.slots.length d2,.int .i64 L.flash,.int .i64 L.ram,.slice none 0 0] 32)).cell? ⟨w.heap.size+1,3,none⟩=some (.int .i64 0):=S5.k1.cell 3
        have p4:(w4.alloc (.cells #[.slice a0 xs.length d0,.int .i64 L.stack,.slice a2 L.slots.length d2,.int .i64 L.flash,.int .i64 L.ram,.slice none 0 0] 32)).cell? ⟨w.heap.size+1,4,none⟩=some (.int .i64 0):=S5.k1.cell 4
        have p5:(w4.alloc (.cells #[.slice a0 xs.length d0,.int .i64 L.stack,.slice a2 L.slots.length d2,.int .i64 L.flash,.int .i64 L.ram,.slice none 0 0] 32)).cell? ⟨w.heap.size+1,5,none⟩=some (.slice none 0 0):=S5.k1.cell 5
        have y0:(w4.alloc (.cells #[.slice a0 xs.length d0,.int .i64 L.stack,.slice a2 L.slots.length d2,.int .i64 L.flash,.int .i64 L.ram,.slice none 0 0] 32)).frozen? ⟨w.heap.size+1,0,none⟩=false:=S5.k1.frozen 0
        have y1:(w4.alloc (.cells #[.slice a0 xs.length d0,.int .i64 L.stack,.slice a2 L.slots.length d2,.int .i64 L.flash,.int .i64 L.ram,.slice none 0 0] 32)).frozen? ⟨w.heap.size+1,1,none⟩=false:=S5.k1.frozen 1
        have y2:(w4.alloc (.cells #[.slice a0 xs.length d0,.int .i64 L.stack,.slice a2 L.slots.length d2,.int .i64 L.flash,.int .i64 L.ram,.slice none 0 0] 32)).frozen? ⟨w.heap.size+1,2,none⟩=false:=S5.k1.frozen 2
        have y3:(w4.alloc (.cells #[.slice a0 xs.length d0,.int .i64 L.stack,.slice a2 L.slots.length d2,.int .i64 L.flash,.int .i64 L.ram,.slice none 0 0] 32)).frozen? ⟨w.heap.size+1,3,none⟩=false:=S5.k1.frozen 3
        have y4:(w4.alloc (.cells #[.slice a0 xs.length d0,.int .i64 L.stack,.slice a2 L.slots.length d2,.int .i64 L.flash,.int .i64 L.ram,.slice none 0 0] 32)).frozen? ⟨w.heap.size+1,4,none⟩=false:=S5.k1.frozen 4
        have y5:(w4.alloc (.cells #[.slice a0 xs.length d0,.int .i64 L.stack,.slice a2 L.slots.length d2,.int .i64 L.flash,.int .i64 L.ram,.slice none 0 0] 32)).frozen? ⟨w.heap.size+1,5,none⟩=false:=S5.k1.frozen 5
        clear S5 S6 LO6 TF6
        go_wp2
        exact link_noI HS5.out.1 HP.out (by decide) _ rfl rfl
       ·have HP:=hide (lkc_0 (d:=d) HS4.out HI.out HN6.out (by rw [← HLL.out];exact h7) (by rw [← HLL.out];exact h8))
        have p0:(w4.alloc (.cells #[.slice a0 xs.length d0,.int .i64 L.stack,.slice a2 L.slots.length d2,.int .i64 L.flash,.int .i64 L.ram,.slice (some ⟨gt,0,none⟩) n n] 32)).cell? ⟨w.heap.size+1,0,none⟩=some (.slice none 0 0):=S6.k1.cell 0
        have p1:(w4.alloc (.cells #[.slice a0 xs.length d0,.int .i64 L.stack,.slice a2 L.slots.length d2,.int .i64 L.flash,.int .i64 L.ram,.slice (some ⟨gt,0,none⟩) n n] 32)).cell? ⟨w.heap.size+1,1,none⟩=some (.int .i64 0):=S6.k1.cell 1
        have p2:(w4.alloc (.cells #[.slice a0 xs.length d0,.int .i64 L.stack,.slice a2 L.slots.length d2,.int .i64 L.flash,.int .i64 L.ram,.slice (some ⟨gt,0,none⟩) n n] 32)).cell? ⟨w.heap.size+1,2,none⟩=some (.slice none 0 0):=S6.k1.cell 2
        have p3:(w4.alloc (.cells #[.slice a0 xs.length d0,.int .i64 L.stack,.slice a2 L.slots.length d2,.int .i64 L.flash,.int .i64 L.ram,.slice (some ⟨gt,0,none⟩) n n] 32)).cell? ⟨w.heap.size+1,3,none⟩=some (.int .i64 0):=S6.k1.cell 3
        have p4:(w4.alloc (.cells #[.slice a0 xs.length d0,.int .i64 L.stack,.slice a2 L.slots.length d2,.int .i64 L.flash,.int .i64 L.ram,.slice (some ⟨gt,0,none⟩) n n] 32)).cell? ⟨w.heap.size+1,4,none⟩=some (.int .i64 0):=S6.k1.cell 4
        have p5:(w4.alloc (.cells #[.slice a0 xs.length d0,.int .i64 L.stack,.slice a2 L.slots.length d2,.int .i64 L.flash,.int .i64 L.ram,.slice (some ⟨gt,0,none⟩) n n] 32)).cell? ⟨w.heap.size+1,5,none⟩=some (.slice none 0 0):=S6.k1.cell 5
        have y0:(w4.alloc (.cells #[.slice a0 xs.length d0,.int .i64 L.stack,.slice a2 L.slots.length d2,.int .i64 L.flash,.int .i64 L.ram,.slice (some ⟨gt,0,none⟩) n n] 32)).frozen? ⟨w.heap.size+1,0,none⟩=false:=S6.k1.frozen 0
        have y1:(w4.alloc (.cells #[.slice a0 xs.length d0,.int .i64 L.stack,.slice a2 L.slots.length d2,.int .i64 L.flash,.int .i64 L.ram,.slice (some ⟨gt,0,none⟩) n n] 32)).frozen? ⟨w.heap.size+1,1,none⟩=false:=S6.k1.frozen 1
        have y2:(w4.alloc (.cells #[.slice a0 xs.length d0,.int .i64 L.stack,.slice a2 L.slots.length d2,.int .i64 L.flash,.int .i64 L.ram,.slice (some ⟨gt,0,none⟩) n n] 32)).frozen? ⟨w.heap.size+1,2,none⟩=false:=S6.k1.frozen 2
        have y3:(w4.alloc (.cells #[.slice a0 xs.length d0,.int .i64 L.stack,.slice a2 L.slots.length d2,.int .i64 L.flash,.int .i64 L.ram,.slice (some ⟨gt,0,none⟩) n n] 32)).frozen? ⟨w.heap.size+1,3,none⟩=false:=S6.k1.frozen 3
        have y4:(w4.alloc (.cells #[.slice a0 xs.length d0,.int .i64 L.stack,.slice a2 L.slots.length d2,.int .i64 L.flash,.int .i64 L.ram,.slice (some ⟨gt,0,none⟩) n n] 32)).frozen? ⟨w.heap.size+1,4,none⟩=false:=S6.k1.frozen 4
        have y5:(w4.alloc (.cells #[.slice a0 xs.length d0,.int .i64 L.stack,.slice a2 L.slots.length d2,.int .i64 L.flash,.int .i64 L.ram,.slice (some ⟨gt,0,none⟩) n n] 32)).frozen? ⟨w.heap.size+1,5,none⟩=false:=S6.k1.frozen 5
        clear S5 S6 LO6 TF6
        go_wp2
        refine link_endI HS5.out.2.2.2.k1 _ _ _ _ _ _ 0 _ _ rfl rfl ?_
        obtain ⟨S5,LO5,TF5,S6⟩:=HS5.out
        have t:=turn_st6 (w4.alloc (.cells #[.slice a0 xs.length d0,.int .i64 L.stack,.slice a2 L.slots.length d2,.int .i64 L.flash,.int .i64 L.ram,.slice (some ⟨gt,0,none⟩) n n] 32)) (w.heap.size+1) (.slice a0 xs.length d0) (.int .i64 L.stack) (.slice a2 L.slots.length d2) (.int .i64 L.flash) (.int .i64 L.ram) (.slice (some ⟨gt,0,none⟩) n n)
        have OT:=TF5.otg (c:=n) (Nat.le_refl _) (by unfold maxLen;omega) rfl
        have key:∀ (base sz nn:Nat) (ty:TypeId) (v:Value) (ys:List Value),(w4.alloc (.cells #[.slice a0 xs.length d0,.int .i64 L.stack,.slice a2 L.slots.length d2,.int .i64 L.flash,.int .i64 L.ram,.slice (some ⟨gt,0,none⟩) n n] 32)).ownsRow base ty sz v nn ys→ty≠32→∀ j,v.ownBlock=some j→¬ (fun j=>j=w.heap.size+1) j:=fun base sz nn ty v ys ho hne j hj e=>by
         have e':j=w.heap.size+1:=e
         subst e'
         exact kind_no ho hj S6.k1 hne
        refine ⟨below_turn S6.be (turn_st6 _ _ _ _ _ _ _ _) (fun j hj=>by have e:j=w.heap.size+1:=hj;omega) S6.be.size,a0,d0,xs,a2,d2,some ⟨gt,0,none⟩,n,(List.range n).map f,?_,?_⟩
        ·unfold lkL layV;rw [if_pos HP.out,HP.out,← HLL.out];simp
        ·unfold lkL;rw [if_pos HP.out,← HLL.out]
         exact ⟨(LO5.p.kept t (key _ _ _ _ _ _ LO5.p.head (by decide)) (fun x hx=>key _ _ _ _ _ _ (LO5.p.rows x hx) (by decide))).mono (by omega) (by omega),LO5.ps,(LO5.s.kept t (key _ _ _ _ _ _ LO5.s (by decide))).mono (by omega),(OT.kept t (key _ _ _ _ _ _ OT.head (by decide)) (fun x hx=>key _ _ _ _ _ _ (OT.rows x hx) (by decide))).mono (by omega) (by omega),by rw [HLL.out];unfold lay;rw [hpl,List.map_map];exact List.map_congr_left (fun i hi=>HFE.out i (by simpa using hi)),LO5.sp⟩
 ·have hV0':(V != 0)=true:=by simp [hV0]
  have HP:=hide (lkc_1 (ps:=pmS ms) HV.out.symm hV0)
  have HS:=hide S1
  have p0:w1.cell? ⟨w.heap.size+1,0,none⟩=some (.slice none 0 0):=S1.k1.cell 0
  have p1:w1.cell? ⟨w.heap.size+1,1,none⟩=some (.int .i64 0):=S1.k1.cell 1
  have p2:w1.cell? ⟨w.heap.size+1,2,none⟩=some (.slice none 0 0):=S1.k1.cell 2
  have p3:w1.cell? ⟨w.heap.size+1,3,none⟩=some (.int .i64 0):=S1.k1.cell 3
  have p4:w1.cell? ⟨w.heap.size+1,4,none⟩=some (.int .i64 0):=S1.k1.cell 4
  have p5:w1.cell? ⟨w.heap.size+1,5,none⟩=some (.slice none 0 0):=S1.k1.cell 5
  have y0:w1.frozen? ⟨w.heap.size+1,0,none⟩=false:=S1.k1.frozen 0
  have y1:w1.frozen? ⟨w.heap.size+1,1,none⟩=false:=S1.k1.frozen 1
  have y2:w1.frozen? ⟨w.heap.size+1,2,none⟩=false:=S1.k1.frozen 2
  have y3:w1.frozen? ⟨w.heap.size+1,3,none⟩=false:=S1.k1.frozen 3
  have y4:w1.frozen? ⟨w.heap.size+1,4,none⟩=false:=S1.k1.frozen 4
  have y5:w1.frozen? ⟨w.heap.size+1,5,none⟩=false:=S1.k1.frozen 5
  clear S1
  go_wp2
  exact link_noI HS.out HP.out hV0 _ rfl rfl
theorem og_oiL {w:World} {base:Nat} {v:Value} {xs:List Int} (h:OG 3 1 clI w base v xs) (hx:∀ z ∈ xs,wfi z):OI w base v xs:=by
 unfold OG at h
 rw [flat_clI] at h
 exact ⟨h,hx⟩
def plF (xs:List PB) (i:Nat):Rw3:=((xs.getD i zPB).2.1,(xs.getD i zPB).1.banks.length,(xs.getD i zPB).2.2)
def plV (xs:List PB) (i:Nat):Int × Int × Int:=((xs.getD i zPB).1.text,(xs.getD i zPB).1.data,(xs.getD i zPB).1.size)
def plX (xs:List PB) (i:Nat):List Int:=(xs.getD i zPB).1.banks
theorem plF_sv (xs:List PB) (i:Nat):svR (plF xs i)=svP (xs.getD i zPB):=rfl
theorem opl_rp {w:World} {base c:Nat} {a:Option Addr} {xs:List PB} (h:OPl w base base (.slice a xs.length c) xs) (hx:∀ x ∈ xs,∀ z ∈ x.1.banks,wfi z):Rp w base a xs.length (plF xs) (plV xs) (plX xs):=by
 have hmem:∀ i,i<xs.length→xs.getD i zPB ∈ xs:=fun i hi=>by simp [List.getD_eq_getElem?_getD,hi]
 have rows:∀ i,i<xs.length→OI w base (svR (plF xs i)) (plX xs i):=fun i hi=>og_oiL (h.rows _ (hmem i hi)) (hx _ (hmem i hi))
 have hap:∀ i j,i<xs.length→j<xs.length→i≠j→∀ k,(svR (plF xs i)).ownBlock=some k→(svR (plF xs j)).ownBlock≠some k:=fun i j hi hj hij k hk=>by
  have hp:=List.pairwise_iff_getElem.1 h.apart
  have gi:xs.getD i zPB=xs[i]:=by simp [List.getD_eq_getElem?_getD,hi]
  have gj:xs.getD j zPB=xs[j]:=by simp [List.getD_eq_getElem?_getD,hj]
  rw [plF_sv] at hk ⊢
  rw [gi] at hk
  rw [gj]
  rcases Nat.lt_or_gt_of_ne hij with h' | h'
  ·exact hp i j hi hj h' k hk
  ·exact fun e=>hp j i hj hi h' k e hk
 obtain ⟨hl,⟨h0,h1⟩ | ⟨g,cap,cur,hv,hg,hh,h1,h2,h3,h4⟩⟩:=h.head
 ·exact ⟨fun hn=>absurd h1 hn,rows,hap,fun hn=>absurd h1 hn⟩
 ·simp at hv
  refine ⟨fun hn=>⟨g,cur,hv.1,fun ⟨i,hi,e⟩=>?_,hh,fun i hi=>?_⟩,rows,hap,fun hn g' hg'=>?_⟩
  ·obtain ⟨c1,k1⟩:=own_kind (rows i hi).1 e
   exact absurd (blk_kind k1 hh) (by decide)
  ·have key:∀ j,j<xs.length * 4→cur[j]?=(xs.flatMap clP)[j]?:=fun j hj=>by
    rw [← h4,List.getElem?_take,if_pos (by omega),← Array.getElem?_toList]
   obtain ⟨e0,e1,e2,e3⟩:=flat_clP xs i hi
   exact ⟨(key _ (by omega)).trans e0,(key _ (by omega)).trans e1,(key _ (by omega)).trans e2,(key _ (by omega)).trans e3⟩
  ·rw [hv.1] at hg'
   simp at hg'
   omega
def tbF (ts:List TB) (i:Nat):TB:=ts.getD i zTB
def tbX (ts:List TB) (i:Nat):List Tg:=(ts.getD i zTB).1
theorem otg_rt {w:World} {base c:Nat} {a:Option Addr} {ts:List TB} (h:OTg w base base (.slice a ts.length c) ts):Rt w base a ts.length (tbF ts) (tbX ts):=by
 have hmem:∀ i,i<ts.length→ts.getD i zTB ∈ ts:=fun i hi=>by simp [List.getD_eq_getElem?_getD,hi]
 have rows:∀ i,i<ts.length→OG 72 3 clG w base (svT (tbF ts i)) (tbX ts i):=fun i hi=>h.rows _ (hmem i hi)
 refine ⟨fun hn=>?_,rows,fun i j hi hj hij k hk=>?_⟩
 ·obtain ⟨hl,⟨h0,h1⟩ | ⟨g,cap,cur,hv,hg,hh,h1,h2,h3,h4⟩⟩:=h.head
  ·exact absurd h1 hn
  ·simp at hv
   refine ⟨g,cur,hv.1,fun ⟨i,hi,e⟩=>?_,hh,fun i hi=>?_⟩
   ·obtain ⟨c1,k1⟩:=own_kind (rows i hi) e
    exact absurd (blk_kind k1 hh) (by decide)
   ·have:(cur.toList.take (ts.length * 1))[i]?=(ts.map svT)[i]?:=by rw [h4,show ts.flatMap clTB=ts.map svT from flat_one _ _]
    rw [List.getElem?_take,if_pos (by omega)] at this
    rw [← Array.getElem?_toList,this]
    simp [tbF,List.getD_eq_getElem?_getD,hi]
 ·have hp:=List.pairwise_iff_getElem.1 h.apart
  have gi:ts.getD i zTB=ts[i]:=by simp [List.getD_eq_getElem?_getD,hi]
  have gj:ts.getD j zTB=ts[j]:=by simp [List.getD_eq_getElem?_getD,hj]
  unfold tbF at hk ⊢
  rw [gi] at hk
  rw [gj]
  rcases Nat.lt_or_gt_of_ne hij with h' | h'
  ·exact hp i j hi hj h' k hk
  ·exact fun e=>hp j i hj hi h' k e hk
structure LayB (L:Lay):Prop where
 r:LayR L
 p:L.places.length≤4∧∀ x ∈ L.places,x.banks.length≤4
 s:L.slots.length≤4
 t:L.targets.length≤4∧∀ x ∈ L.targets,x.length≤16
theorem LayO.y3 {W:World} {base:Nat} {L:Lay} {a0:Option Addr} {c0:Nat} {xs:List PB} {a2:Option Addr} {c2:Nat} {a5:Option Addr} {c5:Nat} {ts:List TB} (h:LayO W base L a0 c0 xs a2 c2 a5 c5 ts) (R:LayR L):Y3 W base a0 xs.length (plF xs) (plV xs) (plX xs) (.slice a2 L.slots.length c2) L.slots a5 ts.length (tbF ts) (tbX ts) where
 p:=opl_rp h.p (fun x hx=>R.p x.1 (by rw [← h.ps];exact List.mem_map.2 ⟨x,hx,rfl⟩))
 s:=og_oiL h.s R.s
 t:=otg_rt h.t
 sp:=fun k hk ⟨i,hi,e⟩=>h.sp k hk _ (by simp [List.getD_eq_getElem?_getD,hi]) e
theorem layB_zero:LayB L0:=⟨⟨by simp [L0],by simp [L0],by simp [L0]⟩,by simp [L0],by simp [L0],by simp [L0]⟩
theorem lkc_facts {ps:List PMod} {s w k d:Int} (h:lkc ps s w k d=0):cfo s w k d=true∧1≤ps.length∧ps.length≤4∧vlds ps∧imps ps:=by
 unfold lkc at h
 split at h
 ·rename_i h1;exact absurd h h1
 rename_i h1
 split at h
 ·exact absurd h (by decide)
 rename_i h2
 simp at h1
 unfold snd4 at h1
 split at h1
 ·exact absurd h1 (by decide)
 rename_i h3
 split at h1
 ·exact absurd h1 (by decide)
 rename_i h4
 split at h1
 ·exact absurd h1 (by decide)
 rename_i h5
 exact ⟨by simpa using h3,by omega,by omega,Classical.not_not.1 h5,Classical.not_not.1 h2⟩
theorem layB_lay {ps:List PMod} {s w k d:Int} (h:lkc ps s w k d=0):LayB (lay ps s w k):=by
 obtain ⟨hc,h1,h2,hv,_⟩:=lkc_facts h
 unfold cfo at hc
 simp at hc
 obtain ⟨c1,c2,c3,c4,c5,c6,_⟩:=hc
 have hmem:∀ i,i<ps.length→mdoP (ps.getD i zP)=0:=hv
 refine ⟨⟨fun x hx z hz=>?_,fun z hz=>?_,?_,?_,fun x hx=>?_⟩,⟨?_,fun x hx=>?_⟩,?_,⟨?_,fun x hx=>?_⟩⟩
 ·simp only [lay,List.mem_map,List.mem_range] at hx
  obtain ⟨i,hi,rfl⟩:=hx
  simp only [plc,List.mem_map,List.mem_range] at hz
  obtain ⟨q,hq,rfl⟩:=hz
  have a1:=Fl_range hv i (by omega)
  have a2:=fsum_range (hmem i hi) q (by omega)
  have a3:=vld_en (hmem i hi)
  have a4:=rnd_range (x:=4 * ((ps.getD i zP).tz.length:Int)) (by omega)
  have a5:tsz (ps.getD i zP)=rnd (4 * ((ps.getD i zP).tz.length:Int)):=rfl
  rw [a5]
  unfold wfi
  omega
 ·simp only [lay,List.mem_map,List.mem_range] at hz
  obtain ⟨i,hi,rfl⟩:=hz
  have a1:=Ra_range hv ps.length (Nat.le_refl _)
  have a4:=rnd_range (x:=4 * w) (by omega)
  have a5:(0:Int)≤(i:Int) * rnd (4 * w):=Int.mul_nonneg (by omega) (by omega)
  have a6:(i:Int) * rnd (4 * w)≤4 * 287:=Int.mul_le_mul (by omega) (by omega) (by omega) (by omega)
  unfold slt wfi
  omega
 ·simp [lay];omega
 ·simp [lay];omega
 ·simp only [lay,List.mem_map,List.mem_range] at hx
  obtain ⟨i,hi,rfl⟩:=hx
  have a3:=vld_en (hmem i hi)
  simp only [tgs,List.length_map,List.length_range];omega
 ·simp [lay];omega
 ·simp only [lay,List.mem_map,List.mem_range] at hx
  obtain ⟨i,hi,rfl⟩:=hx
  have a3:=vld_en (hmem i hi)
  simp only [plc,List.length_map,List.length_range];omega
 ·simp [lay];omega
 ·simp [lay];omega
 ·simp only [lay,List.mem_map,List.mem_range] at hx
  obtain ⟨i,hi,rfl⟩:=hx
  have a3:=vld_en (hmem i hi)
  simp only [tgs,List.length_map,List.length_range];omega
theorem layB_lk (ps:List PMod) (s w k d:Int):LayB (lkL ps s w k d):=by
 unfold lkL
 by_cases h:lkc ps s w k d=0
 ·rw [if_pos h];exact layB_lay h
 ·rw [if_neg h];exact layB_zero
theorem LayO.lyt {W:World} {base:Nat} {L:Lay} {a0:Option Addr} {c0:Nat} {xs:List PB} {a2:Option Addr} {c2:Nat} {a5:Option Addr} {c5:Nat} {ts:List TB} (h:LayO W base L a0 c0 xs a2 c2 a5 c5 ts) (R:LayR L) (hv:wfi L.stack∧wfi L.flash∧wfi L.ram):LyT W L a0 c0 xs a2 c2 a5 c5 ts where
 p:=by
  obtain ⟨_,h2,h3,h4⟩:=og_parts h.p.head
  refine ⟨rfl,by omega,fun hn=>?_,fun i hi=>?_,by omega⟩
  ·obtain ⟨g,hg,_⟩:=h4 hn
   refine ⟨g,0,hg,fun i hi=>?_⟩
   obtain ⟨g',hg',q1,q2,q3,q4,_⟩:=opl_at h.p i hi
   rw [hg] at hg'
   simp at hg'
   subst hg'
   simp only [Nat.zero_add]
   exact ⟨q1,q2,q3,q4⟩
  ·obtain ⟨_,_,_,_,_,_,o⟩:=opl_at h.p i hi
   exact og_is o (R.p _ (by rw [← h.ps];exact List.mem_map.2 ⟨xs.getD i zPB,by simp [List.getD_eq_getElem?_getD,hi],rfl⟩))
 ps:=h.ps
 s:=og_is h.s R.s
 t:=by
  obtain ⟨_,h2,h3,h4⟩:=og_parts h.t.head
  refine ⟨rfl,by omega,fun hn=>?_,fun i hi=>?_,by omega⟩
  ·obtain ⟨g,hg,_⟩:=h4 hn
   refine ⟨g,0,hg,fun i hi=>?_⟩
   obtain ⟨g',hg',q1,_⟩:=otg_at h.t i hi
   rw [hg] at hg'
   simp at hg'
   subst hg'
   simp only [Nat.zero_add]
   exact q1
  ·obtain ⟨_,_,_,o⟩:=otg_at h.t i hi
   obtain ⟨k1,k2,k3,k4⟩:=og_parts o
   refine ⟨k1,by omega,fun hn=>?_,by omega⟩
   obtain ⟨g,hg,_⟩:=k4 hn
   refine ⟨g,0,hg,fun j hj=>?_⟩
   obtain ⟨g',hg',u0,u1,u2⟩:=ogG_at o j hj
   rw [hg] at hg'
   simp at hg'
   subst hg'
   simp only [Nat.zero_add]
   exact ⟨u0,u1,u2⟩
 tt:=h.tt
 v:=hv
theorem lay_v {ps:List PMod} {s w k d:Int} (h:lkc ps s w k d=0):wfi (lay ps s w k).stack∧wfi (lay ps s w k).flash∧wfi (lay ps s w k).ram:=by
 obtain ⟨hc,h1,h2,hv,_⟩:=lkc_facts h
 unfold cfo at hc
 simp at hc
 obtain ⟨c1,c2,c3,c4,c5,c6,_⟩:=hc
 have a1:=Ra_range hv ps.length (Nat.le_refl _)
 have a2:=Fl_range hv ps.length (Nat.le_refl _)
 have a4:=rnd_range (x:=4 * w) (by omega)
 have a5:(0:Int)≤(s.toNat:Int) * rnd (4 * w):=Int.mul_nonneg (by omega) (by omega)
 have a6:(s.toNat:Int) * rnd (4 * w)≤4 * 287:=Int.mul_le_mul (by omega) (by omega) (by omega) (by omega)
 simp only [lay]
 unfold wfi
 omega
theorem lkL_v (ps:List PMod) (s w k d:Int):wfi (lkL ps s w k d).stack∧wfi (lkL ps s w k d).flash∧wfi (lkL ps s w k d).ram:=by
 unfold lkL
 by_cases h:lkc ps s w k d=0
 ·rw [if_pos h];exact lay_v h
 ·rw [if_neg h];unfold L0 wfi;simp
def endOf (L:Lay):Int:=if L.slots=[] then wrap64 (65536+L.ram) else L.slots.getD 0 0
set_option maxHeartbeats 1000000 in
theorem l5Ends_any (L:Lay) (a0:Option Addr) (c0:Nat) (xs:List PB) (a2:Option Addr) (c2:Nat) (a5:Option Addr) (c5:Nat) (ts:List TB) (w:World) (h:LyT w L a0 c0 xs a2 c2 a5 c5 ts):
 Calls Tryz.prog 117 #[.agg #[.slice a0 xs.length c0,.int .i64 L.stack,.slice a2 L.slots.length c2,.int .i64 L.flash,.int .i64 L.ram,.slice a5 ts.length c5]] w fun e w'=>e=.returned (.int .i64 (endOf L))∧Below w.heap.size w w':=by
 have HB:=hide (show Below w.heap.size w (w.alloc (.cells #[.slice a0 xs.length c0,.int .i64 L.stack,.slice a2 L.slots.length c2,.int .i64 L.flash,.int .i64 L.ram,.slice a5 ts.length c5] 32)) from (Below.refl _ _).alloc (Nat.le_refl _) _)
 have hs:=h.s.below HB.out
 have hmx:=h.s.2.1
 unfold maxLen at hmx
 unfold endOf
 by_cases c:L.slots=[]
 ·rw [if_pos c]
  have hl:L.slots.length=0:=by rw [c];rfl
  rw [hl]
  rw [hl] at HB
  go_enter Tryz.func117,Tryz.ntmps117
  go_wp2
  go_ret
  exact ⟨rfl,HB.out⟩
 ·rw [if_neg c]
  have hl:0<L.slots.length:=List.length_pos_iff.2 c
  have hl':(0:Int)<(L.slots.length:Int):=by omega
  obtain ⟨b,off,rfl,hc⟩:=hs.2.2.2.1 (by omega)
  have q:=hc 0 hl
  rw [Nat.add_zero] at q
  generalize L.slots.length=n at *
  generalize L.slots.getD 0 0=z at *
  clear hs hc c
  go_enter Tryz.func117,Tryz.ntmps117
  go_wp2
  go_ret
  exact ⟨rfl,HB.out⟩
def cfQ (L:Lay):Int:=wrap64 ((wrap64 (wrap64 (65536+L.ram) - L.slots.getD 0 0)).tdiv (L.slots.length:Int))
def cfW (L:Lay):Int:=if L.slots=[] then 1 else wrap64 ((cfQ L).tdiv 4)
def cfK (L:Lay):Int:=wrap64 (endOf L - L.stack)
set_option maxHeartbeats 4000000 in
theorem configOf_any (L:Lay) (a0:Option Addr) (c0:Nat) (xs:List PB) (a2:Option Addr) (c2:Nat) (a5:Option Addr) (c5:Nat) (ts:List TB) (w:World) (h:LyT w L a0 c0 xs a2 c2 a5 c5 ts):
 Calls Tryz.prog 152 #[.agg #[.slice a0 xs.length c0,.int .i64 L.stack,.slice a2 L.slots.length c2,.int .i64 L.flash,.int .i64 L.ram,.slice a5 ts.length c5]] w fun e w'=>e=.returned (.agg #[.int .i64 L.slots.length,.int .i64 (cfW L),.int .i64 (cfK L),.int .i64 0])∧Below w.heap.size w w':=by
 have hmx:=h.s.2.1
 unfold maxLen at hmx
 by_cases c:L.slots=[]
 ·have hl:L.slots.length=0:=by rw [c];rfl
  have hW:=hide (show cfW L=1 by unfold cfW;rw [if_pos c])
  have hK:=hide (show cfK L=wrap64 (wrap64 (65536+L.ram) - L.stack) by unfold cfK endOf;rw [if_pos c])
  rw [hW.out,hK.out,hl]
  go_enter Tryz.func152,Tryz.ntmps152
  go_wp2
  refine bodyPost_ret (v:=.agg #[.int .i64 0,.int .i64 1,.int .i64 (wrap64 (wrap64 (65536+L.ram) - L.stack)),.int .i64 0]) (by simp [results,Tryz.results152,go_sem]) rfl ⟨rfl,?_⟩
  exact ((Below.refl _ _).alloc (Nat.le_refl _) _).alloc (by simp) _
 ·have hl:0<L.slots.length:=List.length_pos_iff.2 c
  have hl':(0:Int)<(L.slots.length:Int):=by omega
  have he:((L.slots.length:Int) == 0)=false:=by simp;omega
  have hW:=hide (show cfW L=wrap64 ((cfQ L).tdiv 4) by unfold cfW;rw [if_neg c])
  have hK:=hide (show cfK L=wrap64 (L.slots.getD 0 0 - L.stack) by unfold cfK endOf;rw [if_neg c])
  rw [hW.out,hK.out]
  have hQ:=hide (show cfQ L=wrap64 ((wrap64 (wrap64 (65536+L.ram) - L.slots.getD 0 0)).tdiv (L.slots.length:Int)) from rfl)
  clear hW hK
  obtain ⟨b,off,rfl,hc⟩:=h.s.2.2.2.1 (by omega)
  have q:=hc 0 hl
  have qlt:=World.block_lt_of_cell? _ _ q
  rw [Nat.add_zero] at q
  generalize L.slots.length=n at *
  generalize L.slots.getD 0 0=z at *
  generalize cfQ L=Q at *
  clear hc c h
  have B0:Below w.heap.size w ((w.alloc (.cells #[.slice a0 xs.length c0,.int .i64 L.stack,.slice (some ⟨b,off,none⟩) n c2,.int .i64 L.flash,.int .i64 L.ram,.slice a5 ts.length c5] 32)).alloc (.cells #[.int .i64 0,.int .i64 0,.int .i64 0,.int .i64 0] 25)):=((Below.refl _ _).alloc (Nat.le_refl _) _).alloc (by simp) _
  have u:=(Blk.new w #[.slice a0 xs.length c0,.int .i64 L.stack,.slice (some ⟨b,off,none⟩) n c2,.int .i64 L.flash,.int .i64 L.ram,.slice a5 ts.length c5] 32).alloc (.cells #[.int .i64 0,.int .i64 0,.int .i64 0,.int .i64 0] 25)
  have v:=Blk.new (w.alloc (.cells #[.slice a0 xs.length c0,.int .i64 L.stack,.slice (some ⟨b,off,none⟩) n c2,.int .i64 L.flash,.int .i64 L.ram,.slice a5 ts.length c5] 32)) #[.int .i64 0,.int .i64 0,.int .i64 0,.int .i64 0] 25
  simp only [World.size_alloc] at v
  have HF:=hide (fun (nq:Nat)=>And.intro (below_drewN B0 nq) (And.intro (u.below (below_drewN (Below.refl _ _) nq)) (v.below (below_drewN (Below.refl _ _) nq))))
  clear B0 u v
  go_enter Tryz.func152,Tryz.ntmps152
  go_wp2
  go_quiet (fail)
  rw [← hQ.out]
  go_wp2
  obtain ⟨B1,u,v⟩:=HF.out nq
  clear HF
  generalize (((w.alloc (.cells #[.slice a0 xs.length c0,.int .i64 L.stack,.slice (some ⟨b,off,none⟩) n c2,.int .i64 L.flash,.int .i64 L.ram,.slice a5 ts.length c5] 32)).alloc (.cells #[.int .i64 0,.int .i64 0,.int .i64 0,.int .i64 0] 25)).drewN nq)=W at *
  have q':=cell_below B1 q
  have p1:W.cell? ⟨w.heap.size,1,none⟩=some (.int .i64 L.stack):=u.cell 1
  have p2:W.cell? ⟨w.heap.size,2,none⟩=some (.slice (some ⟨b,off,none⟩) n c2):=u.cell 2
  have v0:W.cell? ⟨w.heap.size+1,0,none⟩=some (.int .i64 0):=v.cell 0
  have v1:W.cell? ⟨w.heap.size+1,1,none⟩=some (.int .i64 0):=v.cell 1
  have v2:W.cell? ⟨w.heap.size+1,2,none⟩=some (.int .i64 0):=v.cell 2
  have v3:W.cell? ⟨w.heap.size+1,3,none⟩=some (.int .i64 0):=v.cell 3
  have vf:=v.frozen
  have nb:b≠w.heap.size+1:=by omega
  have nb':w.heap.size+1≠b:=by omega
  have HB1:=hide (And.intro B1 v)
  clear u v B1
  go_region_held3 (fun w'=>w'.cell? ⟨w.heap.size,1,none⟩=some (.int .i64 L.stack)∧w'.cell? ⟨w.heap.size,2,none⟩=some (.slice (some ⟨b,off,none⟩) n c2)∧w'.cell? ⟨b,off,none⟩=some (.int .i64 z)) (go_keep) (fail)
  simp only [IntWalk.i64_left]
  have kz:=(((HB1.out.2.set 0 (.int .i64 n)).set 1 (.int .i64 (wrap64 (Q.tdiv 4)))).set 2 (.int .i64 (wrap64 (z - L.stack)))).set 3 (.int .i64 0)
  have T:Turn (fun j=>j=w.heap.size+1) W ((((W.setCell ⟨w.heap.size+1,0,none⟩ (.int .i64 n)).setCell ⟨w.heap.size+1,1,none⟩ (.int .i64 (wrap64 (Q.tdiv 4)))).setCell ⟨w.heap.size+1,2,none⟩ (.int .i64 (wrap64 (z - L.stack)))).setCell ⟨w.heap.size+1,3,none⟩ (.int .i64 0)):=(((turn_set _ _ _ _).trans (turn_set _ _ _ _)).trans (turn_set _ _ _ _)).trans (turn_set _ _ _ _)
  have HB2:=hide (below_turn HB1.out.1 T (fun k e=>by omega) HB1.out.1.size)
  simp only [List.setIfInBounds_toArray,List.set_cons_zero,List.set_cons_succ] at kz
  generalize ((((W.setCell ⟨w.heap.size+1,0,none⟩ (.int .i64 n)).setCell ⟨w.heap.size+1,1,none⟩ (.int .i64 (wrap64 (Q.tdiv 4)))).setCell ⟨w.heap.size+1,2,none⟩ (.int .i64 (wrap64 (z - L.stack)))).setCell ⟨w.heap.size+1,3,none⟩ (.int .i64 0))=W2 at *
  have s0:W2.drew.cell? ⟨w.heap.size+1,0,none⟩=some (.int .i64 n):=kz.cell 0
  have s1:W2.drew.cell? ⟨w.heap.size+1,1,none⟩=some (.int .i64 (wrap64 (Q.tdiv 4))):=kz.cell 1
  have s2:W2.drew.cell? ⟨w.heap.size+1,2,none⟩=some (.int .i64 (wrap64 (z - L.stack))):=kz.cell 2
  have s3:W2.drew.cell? ⟨w.heap.size+1,3,none⟩=some (.int .i64 0):=kz.cell 3
  clear T kz HB1
  go_wp2
  exact bodyPost_ret (v:=.agg #[.int .i64 n,.int .i64 (wrap64 (Q.tdiv 4)),.int .i64 (wrap64 (z - L.stack)),.int .i64 0]) (by simp [results,Tryz.results152,go_sem,s0,s1,s2,s3]) rfl ⟨rfl,HB2.out.drew⟩
def Lok (ps:List PMod) (L:Lay):Prop:=lkc ps (L.slots.length:Int) (cfW L) (cfK L) 0=0∧lkL ps (L.slots.length:Int) (cfW L) (cfK L) 0=L
def plE (a b:Pl):Decidable (a=b):=decidable_of_iff (a.text=b.text /\ a.banks=b.banks /\ a.data=b.data /\ a.size=b.size) (by cases a;cases b;simp)
def layE (a b:Lay):Decidable (a=b):=
 have:DecidableEq Pl:=plE
 decidable_of_iff (a.places=b.places /\ a.stack=b.stack /\ a.slots=b.slots /\ a.flash=b.flash /\ a.ram=b.ram /\ a.targets=b.targets) (by cases a;cases b;simp)
def lokD (ps:List PMod)(L:Lay):Decidable (Lok ps L):=@instDecidableAnd _ _ _ (layE _ _)
def lokB (ps:List PMod)(L:Lay):Bool:=@decide _ (lokD ps L)
theorem lokB_iff {ps:List PMod}{L:Lay}:lokB ps L=true ↔ Lok ps L:=⟨@of_decide_eq_true _ (lokD ps L),@decide_eq_true _ (lokD ps L)⟩
end Go.Proofs.YtngdgogjlpjjpadGreat
