import Derived.Test.YtngdgogjlpjjpadGreatP03
import Derived.Test.YtngdgogjlpjjpadGreatP13
import Derived.Test.YtngdgogjlpjjpadGreatP18
import Derived.Test.YtngdgogjlpjjpadGreatP19
import Derived.Test.YtngdgogjlpjjpadGreatP23
import Derived.Test.YtngdgogjlpjjpadGreatP21
import Derived.Test.YtngdgogjlpjjpadGreatP22
import Derived.Test.YtngdgogjlpjjpadGreatP25
namespace Go.Proofs.YtngdgogjlpjjpadGreat
open Go.RowKit Classical
set_option linter.unusedVariables false
set_option linter.unusedSimpArgs false
set_option maxRecDepth 100000
set_option maxHeartbeats 8000000 in
theorem iLink_any (a:Option Addr) (n cap:Nat) (ms:List Md) (s c k d:Int) (w:World) (h:MSD w a n cap ms):
 Calls Tryz.prog 9 #[.slice a n cap,.agg #[.int .i64 s,.int .i64 c,.int .i64 k,.int .i64 d]] w (LkM w (pmS ms) s c k d):=by
 have K0:=kin_new w s c k d
 have hl:=h.s.1
 have hpl:(pmS ms).length=n:=by rw [pmS_len,hl]
 have HH:=hide h
 have HSND:=hide (fun (W:World) (hb:Below w.heap.size w W)=>linkFault_any a n cap ms s c k d W (h.below hb))
 obtain ⟨V,hV⟩:∃ V,V=snd4 (pmS ms) s c k d:=⟨_,rfl⟩
 rw [← hV] at HSND
 have HV:=hide hV
 have HK:=hide K0
 clear h K0 hV
 go_enter Tryz.func9,Tryz.ntmps9
 go_wp2_with fail
 refine (HSND.out _ HK.out.be).mono ?_
 rintro e w1 ⟨rfl,hb1⟩
 have S1:=HK.out.below hb1
 clear hb1 HK
 by_cases hV0:V=0
 ·have hs4:=HV.out
  rw [hV0] at hs4
  obtain ⟨hcf,h4,hvl⟩:=snd4_parts hs4.symm
  obtain ⟨hs0,hs1,hc0,hc1,_⟩:=of_decide_eq_true hcf
  have HS4:=hide hs4.symm
  have HVL:=hide hvl
  have HCF:=hide hcf
  rw [hpl] at h4
  subst hV0
  have HTA:=hide (targetsOf_any a n cap ms w1 (HH.out.below S1.be) hvl h4)
  have HS1:=hide S1
  clear hs4 hvl hcf S1
  go_wp2_with fail
  refine HTA.out.mono ?_
  rintro e w2 ⟨hb2,H2⟩
  have S2:=HS1.out.below hb2
  have hs1w:=HS1.out.be.size
  rcases H2 with ⟨hno,v,rfl⟩ | ⟨hyes,f,rfl,TF,hfe⟩
  ·have HP:=hide (lkc_5 (d:=d) (k:=k) (w:=c) (s:=s) HS4.out hno)
   have HS:=hide S2
   have p0:w2.cell? ⟨w.heap.size+1,0,none⟩=some (.slice none 0 0):=S2.k1.cell 0
   have p1:w2.cell? ⟨w.heap.size+1,1,none⟩=some (.int .i64 0):=S2.k1.cell 1
   have p2:w2.cell? ⟨w.heap.size+1,2,none⟩=some (.slice none 0 0):=S2.k1.cell 2
   have p3:w2.cell? ⟨w.heap.size+1,3,none⟩=some (.int .i64 0):=S2.k1.cell 3
   have p4:w2.cell? ⟨w.heap.size+1,4,none⟩=some (.int .i64 0):=S2.k1.cell 4
   have p5:w2.cell? ⟨w.heap.size+1,5,none⟩=some (.slice none 0 0):=S2.k1.cell 5
   have y0:w2.frozen? ⟨w.heap.size+1,0,none⟩=false:=S2.k1.frozen 0
   have y1:w2.frozen? ⟨w.heap.size+1,1,none⟩=false:=S2.k1.frozen 1
   have y2:w2.frozen? ⟨w.heap.size+1,2,none⟩=false:=S2.k1.frozen 2
   have y3:w2.frozen? ⟨w.heap.size+1,3,none⟩=false:=S2.k1.frozen 3
   have y4:w2.frozen? ⟨w.heap.size+1,4,none⟩=false:=S2.k1.frozen 4
   have y5:w2.frozen? ⟨w.heap.size+1,5,none⟩=false:=S2.k1.frozen 5
   clear S2 hno hb2 HTA HS1
   go_wp2
   exact link_noI HS.out HP.out (by decide) _ rfl rfl
  ·have HI:=hide hyes
   have HFE:=hide hfe
   obtain ⟨gt,hgt0⟩:∃ gt,gt=w1.heap.size:=⟨_,rfl⟩
   rw [← hgt0] at TF hs1w ⊢
   have HTF0:=hide TF
   have HS2:=hide S2
   have c0:w2.cell? ⟨w.heap.size,0,none⟩=some (.int .i64 s):=S2.k0.cell 0
   have c1:w2.cell? ⟨w.heap.size,1,none⟩=some (.int .i64 c):=S2.k0.cell 1
   have c2:w2.cell? ⟨w.heap.size,2,none⟩=some (.int .i64 k):=S2.k0.cell 2
   have c3:w2.cell? ⟨w.heap.size,3,none⟩=some (.int .i64 d):=S2.k0.cell 3
   clear hyes hfe TF S2 hb2 HTA HS1 hgt0
   by_cases hsz:s=0
   ·subst hsz
    have HN6:=hide (show ¬ ((0:Int)<0∧¬ shrt (pmS ms) c) from fun e=>absurd e.1 (by omega))
    go_wp2_with fail
    go_quiet (fail)
    have HS:Hid (Kin w (w2.drewN nq) 0 c k d):=hide ⟨below_dN HS2.out.be nq,HS2.out.k0,HS2.out.k1⟩
    have HTF:Hid (Tf (w2.drewN nq) gt gt n f):=hide ⟨HTF0.out.head,HTF0.out.rows,HTF0.out.apart⟩
    clear HS2 HTF0 c0 c1 c2 c3
    generalize w2.drewN nq=w3 at *
    have HLA:=hide (layOut_any a n cap ms 0 c k d w3 (HH.out.below HS.out.be) h4 HCF.out HVL.out)
    have c0:w3.cell? ⟨w.heap.size,0,none⟩=some (.int .i64 0):=HS.out.k0.cell 0
    have c1:w3.cell? ⟨w.heap.size,1,none⟩=some (.int .i64 c):=HS.out.k0.cell 1
    have c2:w3.cell? ⟨w.heap.size,2,none⟩=some (.int .i64 k):=HS.out.k0.cell 2
    have c3:w3.cell? ⟨w.heap.size,3,none⟩=some (.int .i64 d):=HS.out.k0.cell 3
    go_wp2_with fail
    refine HLA.out.mono ?_
    rintro e w4 ⟨hb4,a0,d0,xs,a2,d2,rfl,LO⟩
    have S4:=HS.out.below hb4
    have TF4:=HTF.out.below hb4
    obtain ⟨L,hL⟩:∃ L,L=lay (pmS ms) 0 c k:=⟨_,rfl⟩
    rw [← hL] at LO ⊢
    have HLL:=hide hL
    have al:Below w4.heap.size w4 (w4.alloc (.cells #[.slice a0 xs.length d0,.int .i64 L.stack,.slice a2 L.slots.length d2,.int .i64 L.flash,.int .i64 L.ram,.slice none 0 0] 32)):=(Below.refl _ _).alloc (Nat.le_refl _) _
    have kL:=Blk.new w4 #[.slice a0 xs.length d0,.int .i64 L.stack,.slice a2 L.slots.length d2,.int .i64 L.flash,.int .i64 L.ram,.slice none 0 0] 32
    have S5:=S4.below al
    have TF5:=TF4.below al
    have hs34:=hb4.size
    have hs3:=HS.out.k1.lt
    have hgt:=HTF.out.lt.1
    have LO5:LayO (w4.alloc (.cells #[.slice a0 xs.length d0,.int .i64 L.stack,.slice a2 L.slots.length d2,.int .i64 L.flash,.int .i64 L.ram,.slice none 0 0] 32)) w3.heap.size ⟨L.places,L.stack,L.slots,L.flash,L.ram,[]⟩ a0 d0 xs a2 d2 none 0 []:=⟨LO.p.below al,LO.ps,LO.s.below al,LO.t.below al,LO.tt,LO.sp⟩
    have alM:Below w4.heap.size w4 (w4.alloc (.cells #[.slice a0 xs.length d0,.int .i64 L.stack,.slice a2 L.slots.length d2,.int .i64 L.flash,.int .i64 L.ram,.slice (some ⟨gt,0,none⟩) n n] 32)):=(Below.refl _ _).alloc (Nat.le_refl _) _
    have kM:=Blk.new w4 #[.slice a0 xs.length d0,.int .i64 L.stack,.slice a2 L.slots.length d2,.int .i64 L.flash,.int .i64 L.ram,.slice (some ⟨gt,0,none⟩) n n] 32
    have S6:=S4.below alM
    have TF6:=TF4.below alM
    have LO6:LayO (w4.alloc (.cells #[.slice a0 xs.length d0,.int .i64 L.stack,.slice a2 L.slots.length d2,.int .i64 L.flash,.int .i64 L.ram,.slice (some ⟨gt,0,none⟩) n n] 32)) w3.heap.size ⟨L.places,L.stack,L.slots,L.flash,L.ram,[]⟩ a0 d0 xs a2 d2 none 0 []:=⟨LO.p.below alM,LO.ps,LO.s.below alM,LO.t.below alM,LO.tt,LO.sp⟩
    have l0:(w4.alloc (.cells #[.slice a0 xs.length d0,.int .i64 L.stack,.slice a2 L.slots.length d2,.int .i64 L.flash,.int .i64 L.ram,.slice none 0 0] 32)).cell? ⟨w4.heap.size,0,none⟩=some (.slice a0 xs.length d0):=kL.cell 0
    have l1:(w4.alloc (.cells #[.slice a0 xs.length d0,.int .i64 L.stack,.slice a2 L.slots.length d2,.int .i64 L.flash,.int .i64 L.ram,.slice none 0 0] 32)).cell? ⟨w4.heap.size,1,none⟩=some (.int .i64 L.stack):=kL.cell 1
    have l2:(w4.alloc (.cells #[.slice a0 xs.length d0,.int .i64 L.stack,.slice a2 L.slots.length d2,.int .i64 L.flash,.int .i64 L.ram,.slice none 0 0] 32)).cell? ⟨w4.heap.size,2,none⟩=some (.slice a2 L.slots.length d2):=kL.cell 2
    have l3:(w4.alloc (.cells #[.slice a0 xs.length d0,.int .i64 L.stack,.slice a2 L.slots.length d2,.int .i64 L.flash,.int .i64 L.ram,.slice none 0 0] 32)).cell? ⟨w4.heap.size,3,none⟩=some (.int .i64 L.flash):=kL.cell 3
    have l4:(w4.alloc (.cells #[.slice a0 xs.length d0,.int .i64 L.stack,.slice a2 L.slots.length d2,.int .i64 L.flash,.int .i64 L.ram,.slice none 0 0] 32)).cell? ⟨w4.heap.size,4,none⟩=some (.int .i64 L.ram):=kL.cell 4
    have l5:(w4.alloc (.cells #[.slice a0 xs.length d0,.int .i64 L.stack,.slice a2 L.slots.length d2,.int .i64 L.flash,.int .i64 L.ram,.slice none 0 0] 32)).cell? ⟨w4.heap.size,5,none⟩=some (.slice none 0 0):=kL.cell 5
    have n5:=kL.frozen 5
    have HKL:=hide kM
    have m0:(w4.alloc (.cells #[.slice a0 xs.length d0,.int .i64 L.stack,.slice a2 L.slots.length d2,.int .i64 L.flash,.int .i64 L.ram,.slice (some ⟨gt,0,none⟩) n n] 32)).cell? ⟨w4.heap.size,0,none⟩=some (.slice a0 xs.length d0):=kM.cell 0
    have m1:(w4.alloc (.cells #[.slice a0 xs.length d0,.int .i64 L.stack,.slice a2 L.slots.length d2,.int .i64 L.flash,.int .i64 L.ram,.slice (some ⟨gt,0,none⟩) n n] 32)).cell? ⟨w4.heap.size,1,none⟩=some (.int .i64 L.stack):=kM.cell 1
    have m2:(w4.alloc (.cells #[.slice a0 xs.length d0,.int .i64 L.stack,.slice a2 L.slots.length d2,.int .i64 L.flash,.int .i64 L.ram,.slice (some ⟨gt,0,none⟩) n n] 32)).cell? ⟨w4.heap.size,2,none⟩=some (.slice a2 L.slots.length d2):=kM.cell 2
    have m3:(w4.alloc (.cells #[.slice a0 xs.length d0,.int .i64 L.stack,.slice a2 L.slots.length d2,.int .i64 L.flash,.int .i64 L.ram,.slice (some ⟨gt,0,none⟩) n n] 32)).cell? ⟨w4.heap.size,3,none⟩=some (.int .i64 L.flash):=kM.cell 3
    have m4:(w4.alloc (.cells #[.slice a0 xs.length d0,.int .i64 L.stack,.slice a2 L.slots.length d2,.int .i64 L.flash,.int .i64 L.ram,.slice (some ⟨gt,0,none⟩) n n] 32)).cell? ⟨w4.heap.size,4,none⟩=some (.int .i64 L.ram):=kM.cell 4
    have m5:(w4.alloc (.cells #[.slice a0 xs.length d0,.int .i64 L.stack,.slice a2 L.slots.length d2,.int .i64 L.flash,.int .i64 L.ram,.slice (some ⟨gt,0,none⟩) n n] 32)).cell? ⟨w4.heap.size,5,none⟩=some (.slice (some ⟨gt,0,none⟩) n n):=kM.cell 5
    have HS5:=hide (And.intro S5 (And.intro LO6 (And.intro TF6 S6)))
    clear hb4 S4 TF4 LO al kL hL HS HTF HLA c0 c1 c2 c3 alM kM TF5 LO5
    unfold layV
    by_cases h7:16384<L.flash
    ·have HP:=hide (lkc_7 (d:=d) HS4.out HI.out HN6.out (by rw [← HLL.out];exact h7))
     have p0:(w4.alloc (.cells #[.slice a0 xs.length d0,.int .i64 L.stack,.slice a2 L.slots.length d2,.int .i64 L.flash,.int .i64 L.ram,.slice none 0 0] 32)).cell? ⟨w.heap.size+1,0,none⟩=some (.slice none 0 0):=S5.k1.cell 0
     have p1:(w4.alloc (.cells #[.slice a0 xs.length d0,.int .i64 L.stack,.slice a2 L.slots.length d2,.int .i64 L.flash,.int .i64 L.ram,.slice none 0 0] 32)).cell? ⟨w.heap.size+1,1,none⟩=some (.int .i64 0):=S5.k1.cell 1
     have p2:(w4.alloc (.cells #[.slice a0 xs.length d0,.int .i64 L.stack,.slice a2 L.slots.length d2,.int .i64 L.flash,.int .i64 L.ram,.slice none 0 0] 32)).cell? ⟨w.heap.size+1,2,none⟩=some (.slice none 0 0):=S5.k1.cell 2
     have p3:(w4.alloc (.cells #[.slice a0 xs.length d0,.int .i64 L.stack,.slice a2 L.slots.length d2,.int .i64 L.flash,.int .i64 L.ram,.slice none 0 0] 32)).cell? ⟨w.heap.size+1,3,none⟩=some (.int .i64 0):=S5.k1.cell 3
     have p4:(w4.alloc (.cells #[.slice a0 xs.length d0,.int .i64 L.stack,.slice a2 L.slots.length d2,.int .i64 L.flash,.int .i64 L.ram,.slice none 0 0] 32)).cell? ⟨w.heap.size+1,4,none⟩=some (.int .i64 0):=S5.k1.cell 4
     have p5:(w4.alloc (.cells #[.slice a0 xs.length d0,.int .i64 L.stack,.slice a2 L.slots.length d2,.int .i64 L.flash,.int .i64 L.ram,.slice none 0 0] 32)).cell? ⟨w.heap.size+1,5,none⟩=some (.slice none 0 0):=S5.k1.cell 5
     have y0:(w4.alloc (.cells #[.slice a0 xs.length d0,.int .i64 L.stack,.slice a2 L.slots.length d2,.int .i64 L.flash,.int .i64 L.ram,.slice none 0 0] 32)).frozen? ⟨w.heap.size+1,0,none⟩=false:=S5.k1.frozen 0
     have y1:(w4.alloc (.cells #[.slice a0 xs.length d0,.int .i64 L.stack,.slice a2 L.slots.length d2,.int .i64 L.flash,.int .i64 L.ram,.slice none 0 0] 32)).frozen? ⟨w.heap.size+1,1,none⟩=false:=S5.k1.frozen 1
     have y2:(w4.alloc (.cells #[.slice a0 xs.length d0,.int .i64 L.stack,.slice a2 L.slots.length d2,.int .i64 L.flash,.int .i64 L.ram,.slice none 0 0] 32)).frozen? ⟨w.heap.size+1,2,none⟩=false:=S5.k1.frozen 2
     have y3:(w4.alloc (.cells #[.slice a0 xs.length d0,.int .i64 L.stack,.slice a2 L.slots.length d2,.int .i64 L.flash,.int .i64 L.ram,.slice none 0 0] 32)).frozen? ⟨w.heap.size+1,3,none⟩=false:=S5.k1.frozen 3
     have y4:(w4.alloc (.cells #[.slice a0 xs.length d0,.int .i64 L.stack,.slice a2 L.slots.length d2,.int .i64 L.flash,.int .i64 L.ram,.slice none 0 0] 32)).frozen? ⟨w.heap.size+1,4,none⟩=false:=S5.k1.frozen 4
     have y5:(w4.alloc (.cells #[.slice a0 xs.length d0,.int .i64 L.stack,.slice a2 L.slots.length d2,.int .i64 L.flash,.int .i64 L.ram,.slice none 0 0] 32)).frozen? ⟨w.heap.size+1,5,none⟩=false:=S5.k1.frozen 5
     clear S5 S6 LO6 TF6
     go_wp2
     exact link_noI HS5.out.1 HP.out (by decide) _ rfl rfl
    ·have h7':¬ 16384<L.flash:=h7
     by_cases h8:16384<L.ram
     ·have HP:=hide (lkc_8 (d:=d) HS4.out HI.out HN6.out (by rw [← HLL.out];exact h7) (by rw [← HLL.out];exact h8))
      have p0:(w4.alloc (.cells #[.slice a0 xs.length d0,.int .i64 L.stack,.slice a2 L.slots.length d2,.int .i64 L.flash,.int .i64 L.ram,.slice none 0 0] 32)).cell? ⟨w.heap.size+1,0,none⟩=some (.slice none 0 0):=S5.k1.cell 0
      have p1:(w4.alloc (.cells #[.slice a0 xs.length d0,.int .i64 L.stack,.slice a2 L.slots.length d2,.int .i64 L.flash,.int .i64 L.ram,.slice none 0 0] 32)).cell? ⟨w.heap.size+1,1,none⟩=some (.int .i64 0):=S5.k1.cell 1
      have p2:(w4.alloc (.cells #[.slice a0 xs.length d0,.int .i64 L.stack,.slice a2 L.slots.length d2,.int .i64 L.flash,.int .i64 L.ram,.slice none 0 0] 32)).cell? ⟨w.heap.size+1,2,none⟩=some (.slice none 0 0):=S5.k1.cell 2
      have p3:(w4.alloc (.cells #[.slice a0 xs.length d0,.int .i64 L.stack,.slice a2 L.slots.length d2,.int .i64 L.flash,.int .i64 L.ram,.slice none 0 0] 32)).cell? ⟨w.heap.size+1,3,none⟩=some (.int .i64 0):=S5.k1.cell 3
      have p4:(w4.alloc (.cells #[.slice a0 xs.length d0,.int .i64 L.stack,.slice a2 L.slots.length d2,.int .i64 L.flash,.int .i64 L.ram,.slice none 0 0] 32)).cell? ⟨w.heap.size+1,4,none⟩=some (.int .i64 0):=S5.k1.cell 4
      have p5:(w4.alloc (.cells #[.slice a0 xs.length d0,.int .i64 L.stack,.slice a2 L.slots.length d2,.int .i64 L.flash,.int .i64 L.ram,.slice none 0 0] 32)).cell? ⟨w.heap.size+1,5,none⟩=some (.slice none 0 0):=S5.k1.cell 5
      have y0:(w4.alloc (.cells #[.slice a0 xs.length d0,.int .i64 L.stack,.slice a2 L.slots.length d2,.int .i64 L.flash,.int .i64 L.ram,.slice none 0 0] 32)).frozen? ⟨w.heap.size+1,0,none⟩=false:=S5.k1.frozen 0
      have y1:(w4.alloc (.cells #[.slice a0 xs.length d0,.int .i64 L.stack,.slice a2 L.slots.length d2,.int .i64 L.flash,.int .i64 L.ram,.slice none 0 0] 32)).frozen? ⟨w.heap.size+1,1,none⟩=false:=S5.k1.frozen 1
      have y2:(w4.alloc (.cells #[.slice a0 xs.length d0,.int .i64 L.stack,.slice a2 L.slots.length d2,.int .i64 L.flash,.int .i64 L.ram,.slice none 0 0] 32)).frozen? ⟨w.heap.size+1,2,none⟩=false:=S5.k1.frozen 2
      have y3:(w4.alloc (.cells #[.slice a0 xs.length d0,.int .i64 L.stack,.slice a2 L.slots.length d2,.int .i64 L.flash,.int .i64 L.ram,.slice none 0 0] 32)).frozen? ⟨w.heap.size+1,3,none⟩=false:=S5.k1.frozen 3
      have y4:(w4.alloc (.cells #[.slice a0 xs.length d0,.int .i64 L.stack,.slice a2 L.slots.length d2,.int .i64 L.flash,.int .i64 L.ram,.slice none 0 0] 32)).frozen? ⟨w.heap.size+1,4,none⟩=false:=S5.k1.frozen 4
      have y5:(w4.alloc (.cells #[.slice a0 xs.length d0,.int .i64 L.stack,.slice a2 L.slots.length d2,.int .i64 L.flash,.int .i64 L.ram,.slice none 0 0] 32)).frozen? ⟨w.heap.size+1,5,none⟩=false:=S5.k1.frozen 5
      clear S5 S6 LO6 TF6
      go_wp2
      exact link_noI HS5.out.1 HP.out (by decide) _ rfl rfl
     ·have HP:=hide (lkc_0 (d:=d) HS4.out HI.out HN6.out (by rw [← HLL.out];exact h7) (by rw [← HLL.out];exact h8))
      have p0:(w4.alloc (.cells #[.slice a0 xs.length d0,.int .i64 L.stack,.slice a2 L.slots.length d2,.int .i64 L.flash,.int .i64 L.ram,.slice (some ⟨gt,0,none⟩) n n] 32)).cell? ⟨w.heap.size+1,0,none⟩=some (.slice none 0 0):=S6.k1.cell 0
      have p1:(w4.alloc (.cells #[.slice a0 xs.length d0,.int .i64 L.stack,.slice a2 L.slots.length d2,.int .i64 L.flash,.int .i64 L.ram,.slice (some ⟨gt,0,none⟩) n n] 32)).cell? ⟨w.heap.size+1,1,none⟩=some (.int .i64 0):=S6.k1.cell 1
      have p2:(w4.alloc (.cells #[.slice a0 xs.length d0,.int .i64 L.stack,.slice a2 L.slots.length d2,.int .i64 L.flash,.int .i64 L.ram,.slice (some ⟨gt,0,none⟩) n n] 32)).cell? ⟨w.heap.size+1,2,none⟩=some (.slice none 0 0):=S6.k1.cell 2
      have p3:(w4.alloc (.cells #[.slice a0 xs.length d0,.int .i64 L.stack,.slice a2 L.slots.length d2,.int .i64 L.flash,.int .i64 L.ram,.slice (some ⟨gt,0,none⟩) n n] 32)).cell? ⟨w.heap.size+1,3,none⟩=some (.int .i64 0):=S6.k1.cell 3
      have p4:(w4.alloc (.cells #[.slice a0 xs.length d0,.int .i64 L.stack,.slice a2 L.slots.length d2,.int .i64 L.flash,.int .i64 L.ram,.slice (some ⟨gt,0,none⟩) n n] 32)).cell? ⟨w.heap.size+1,4,none⟩=some (.int .i64 0):=S6.k1.cell 4
      have p5:(w4.alloc (.cells #[.slice a0 xs.length d0,.int .i64 L.stack,.slice a2 L.slots.length d2,.int .i64 L.flash,.int .i64 L.ram,.slice (some ⟨gt,0,none⟩) n n] 32)).cell? ⟨w.heap.size+1,5,none⟩=some (.slice none 0 0):=S6.k1.cell 5
      have y0:(w4.alloc (.cells #[.slice a0 xs.length d0,.int .i64 L.stack,.slice a2 L.slots.length d2,.int .i64 L.flash,.int .i64 L.ram,.slice (some ⟨gt,0,none⟩) n n] 32)).frozen? ⟨w.heap.size+1,0,none⟩=false:=S6.k1.frozen 0
      have y1:(w4.alloc (.cells #[.slice a0 xs.length d0,.int .i64 L.stack,.slice a2 L.slots.length d2,.int .i64 L.flash,.int .i64 L.ram,.slice (some ⟨gt,0,none⟩) n n] 32)).frozen? ⟨w.heap.size+1,1,none⟩=false:=S6.k1.frozen 1
      have y2:(w4.alloc (.cells #[.slice a0 xs.length d0,.int .i64 L.stack,.slice a2 L.slots.length d2,.int .i64 L.flash,.int .i64 L.ram,.slice (some ⟨gt,0,none⟩) n n] 32)).frozen? ⟨w.heap.size+1,2,none⟩=false:=S6.k1.frozen 2
      have y3:(w4.alloc (.cells #[.slice a0 xs.length d0,.int .i64 L.stack,.slice a2 L.slots.length d2,.int .i64 L.flash,.int .i64 L.ram,.slice (some ⟨gt,0,none⟩) n n] 32)).frozen? ⟨w.heap.size+1,3,none⟩=false:=S6.k1.frozen 3
      have y4:(w4.alloc (.cells #[.slice a0 xs.length d0,.int .i64 L.stack,.slice a2 L.slots.length d2,.int .i64 L.flash,.int .i64 L.ram,.slice (some ⟨gt,0,none⟩) n n] 32)).frozen? ⟨w.heap.size+1,4,none⟩=false:=S6.k1.frozen 4
      have y5:(w4.alloc (.cells #[.slice a0 xs.length d0,.int .i64 L.stack,.slice a2 L.slots.length d2,.int .i64 L.flash,.int .i64 L.ram,.slice (some ⟨gt,0,none⟩) n n] 32)).frozen? ⟨w.heap.size+1,5,none⟩=false:=S6.k1.frozen 5
      clear S5 S6 LO6 TF6
      go_wp2
      refine link_endI HS5.out.2.2.2.k1 _ _ _ _ _ _ 0 _ _ rfl rfl ?_
      obtain ⟨S5,LO5,TF5,S6⟩:=HS5.out
      have t:=turn_st6 (w4.alloc (.cells #[.slice a0 xs.length d0,.int .i64 L.stack,.slice a2 L.slots.length d2,.int .i64 L.flash,.int .i64 L.ram,.slice (some ⟨gt,0,none⟩) n n] 32)) (w.heap.size+1) (.slice a0 xs.length d0) (.int .i64 L.stack) (.slice a2 L.slots.length d2) (.int .i64 L.flash) (.int .i64 L.ram) (.slice (some ⟨gt,0,none⟩) n n)
      have OT:=TF5.otg (c:=n) (Nat.le_refl _) (by unfold maxLen;omega) rfl
      have key:∀ (base sz nn:Nat) (ty:TypeId) (v:Value) (ys:List Value),(w4.alloc (.cells #[.slice a0 xs.length d0,.int .i64 L.stack,.slice a2 L.slots.length d2,.int .i64 L.flash,.int .i64 L.ram,.slice (some ⟨gt,0,none⟩) n n] 32)).ownsRow base ty sz v nn ys→ty≠32→∀ j,v.ownBlock=some j→¬ (fun j=>j=w.heap.size+1) j:=fun base sz nn ty v ys ho hne j hj e=>by
       have e':j=w.heap.size+1:=e
       subst e'
       exact kind_no ho hj S6.k1 hne
      refine ⟨below_turn S6.be (turn_st6 _ _ _ _ _ _ _ _) (fun j hj=>by have e:j=w.heap.size+1:=hj;omega) S6.be.size,a0,d0,xs,a2,d2,some ⟨gt,0,none⟩,n,(List.range n).map f,?_,?_⟩
      ·unfold lkL layV;rw [if_pos HP.out,HP.out,← HLL.out];simp
      ·unfold lkL;rw [if_pos HP.out,← HLL.out]
       exact ⟨(LO5.p.kept t (key _ _ _ _ _ _ LO5.p.head (by decide)) (fun x hx=>key _ _ _ _ _ _ (LO5.p.rows x hx) (by decide))).mono (by omega) (by omega),LO5.ps,(LO5.s.kept t (key _ _ _ _ _ _ LO5.s (by decide))).mono (by omega),(OT.kept t (key _ _ _ _ _ _ OT.head (by decide)) (fun x hx=>key _ _ _ _ _ _ (OT.rows x hx) (by decide))).mono (by omega) (by omega),by rw [HLL.out];unfold lay;rw [hpl,List.map_map];exact List.map_congr_left (fun i hi=>HFE.out i (by simpa using hi)),LO5.sp⟩
   ·have hsn:(s != 0)=true:=by simp [hsz]
    have HGB:=hide (fun (W:World) (hb:Below w.heap.size w W)=>greatestBank_any a n cap ms W (HH.out.below hb) HVL.out h4)
    go_wp2_with fail
    go_region_law (first
     | (go_simp;go_at_call 60;refine (HGB.out _ (by first | exact HS2.out.be | exact HS2.out.drew.be)).mono ?_;rintro e wa ⟨R,rfl,hG,hba⟩;have HSA:=hide (show Kin w wa s c k d from (by first | exact HS2.out.below hba | exact HS2.out.drew.below hba));have HTB:=hide (show Tf wa gt gt n f from (by first | exact HTF0.out.below hba | exact Tf.below (w:=w2.drew) ⟨HTF0.out.head,HTF0.out.rows,HTF0.out.apart⟩ hba));have e1:wa.cell? ⟨w.heap.size,1,none⟩=some (.int .i64 c):=HSA.out.k0.cell 1;have HG:=hide hG;clear hba hG))
    all_goals
     have HS:=HSA
     have HTF:=HTB
     clear HS2 HTF0 c0 c1 c2 c3 HSA HTB e1 HGB
     generalize wa=w3 at *
     by_cases h6:c<(R:Int)
     ·have HP:=hide (lkc_6 (d:=d) (k:=k) HS4.out HI.out ⟨by omega,(gb_shrt HG.out c hc0).1 h6⟩)
      have S3:=HS.out
      have p0:w3.cell? ⟨w.heap.size+1,0,none⟩=some (.slice none 0 0):=S3.k1.cell 0
      have p1:w3.cell? ⟨w.heap.size+1,1,none⟩=some (.int .i64 0):=S3.k1.cell 1
      have p2:w3.cell? ⟨w.heap.size+1,2,none⟩=some (.slice none 0 0):=S3.k1.cell 2
      have p3:w3.cell? ⟨w.heap.size+1,3,none⟩=some (.int .i64 0):=S3.k1.cell 3
      have p4:w3.cell? ⟨w.heap.size+1,4,none⟩=some (.int .i64 0):=S3.k1.cell 4
      have p5:w3.cell? ⟨w.heap.size+1,5,none⟩=some (.slice none 0 0):=S3.k1.cell 5
      have y0:w3.frozen? ⟨w.heap.size+1,0,none⟩=false:=S3.k1.frozen 0
      have y1:w3.frozen? ⟨w.heap.size+1,1,none⟩=false:=S3.k1.frozen 1
      have y2:w3.frozen? ⟨w.heap.size+1,2,none⟩=false:=S3.k1.frozen 2
      have y3:w3.frozen? ⟨w.heap.size+1,3,none⟩=false:=S3.k1.frozen 3
      have y4:w3.frozen? ⟨w.heap.size+1,4,none⟩=false:=S3.k1.frozen 4
      have y5:w3.frozen? ⟨w.heap.size+1,5,none⟩=false:=S3.k1.frozen 5
      clear S3
      go_wp2
      exact link_noI HS.out HP.out (by decide) _ rfl rfl
     ·have HN6:=hide (show ¬ (0<s∧¬ shrt (pmS ms) c) from fun e=>h6 ((gb_shrt HG.out c hc0).2 e.2))
      have h6':¬ c<(R:Int):=h6
      have HLA:=hide (layOut_any a n cap ms s c k d w3 (HH.out.below HS.out.be) h4 HCF.out HVL.out)
      have c0:w3.cell? ⟨w.heap.size,0,none⟩=some (.int .i64 s):=HS.out.k0.cell 0
      have c1:w3.cell? ⟨w.heap.size,1,none⟩=some (.int .i64 c):=HS.out.k0.cell 1
      have c2:w3.cell? ⟨w.heap.size,2,none⟩=some (.int .i64 k):=HS.out.k0.cell 2
      have c3:w3.cell? ⟨w.heap.size,3,none⟩=some (.int .i64 d):=HS.out.k0.cell 3
      go_wp2_with fail
      refine HLA.out.mono ?_
      rintro e w4 ⟨hb4,a0,d0,xs,a2,d2,rfl,LO⟩
      have S4:=HS.out.below hb4
      have TF4:=HTF.out.below hb4
      obtain ⟨L,hL⟩:∃ L,L=lay (pmS ms) s c k:=⟨_,rfl⟩
      rw [← hL] at LO ⊢
      have HLL:=hide hL
      have al:Below w4.heap.size w4 (w4.alloc (.cells #[.slice a0 xs.length d0,.int .i64 L.stack,.slice a2 L.slots.length d2,.int .i64 L.flash,.int .i64 L.ram,.slice none 0 0] 32)):=(Below.refl _ _).alloc (Nat.le_refl _) _
      have kL:=Blk.new w4 #[.slice a0 xs.length d0,.int .i64 L.stack,.slice a2 L.slots.length d2,.int .i64 L.flash,.int .i64 L.ram,.slice none 0 0] 32
      have S5:=S4.below al
      have TF5:=TF4.below al
      have hs34:=hb4.size
      have hs3:=HS.out.k1.lt
      have hgt:=HTF.out.lt.1
      have LO5:LayO (w4.alloc (.cells #[.slice a0 xs.length d0,.int .i64 L.stack,.slice a2 L.slots.length d2,.int .i64 L.flash,.int .i64 L.ram,.slice none 0 0] 32)) w3.heap.size ⟨L.places,L.stack,L.slots,L.flash,L.ram,[]⟩ a0 d0 xs a2 d2 none 0 []:=⟨LO.p.below al,LO.ps,LO.s.below al,LO.t.below al,LO.tt,LO.sp⟩
      have alM:Below w4.heap.size w4 (w4.alloc (.cells #[.slice a0 xs.length d0,.int .i64 L.stack,.slice a2 L.slots.length d2,.int .i64 L.flash,.int .i64 L.ram,.slice (some ⟨gt,0,none⟩) n n] 32)):=(Below.refl _ _).alloc (Nat.le_refl _) _
      have kM:=Blk.new w4 #[.slice a0 xs.length d0,.int .i64 L.stack,.slice a2 L.slots.length d2,.int .i64 L.flash,.int .i64 L.ram,.slice (some ⟨gt,0,none⟩) n n] 32
      have S6:=S4.below alM
      have TF6:=TF4.below alM
      have LO6:LayO (w4.alloc (.cells #[.slice a0 xs.length d0,.int .i64 L.stack,.slice a2 L.slots.length d2,.int .i64 L.flash,.int .i64 L.ram,.slice (some ⟨gt,0,none⟩) n n] 32)) w3.heap.size ⟨L.places,L.stack,L.slots,L.flash,L.ram,[]⟩ a0 d0 xs a2 d2 none 0 []:=⟨LO.p.below alM,LO.ps,LO.s.below alM,LO.t.below alM,LO.tt,LO.sp⟩
      have l0:(w4.alloc (.cells #[.slice a0 xs.length d0,.int .i64 L.stack,.slice a2 L.slots.length d2,.int .i64 L.flash,.int .i64 L.ram,.slice none 0 0] 32)).cell? ⟨w4.heap.size,0,none⟩=some (.slice a0 xs.length d0):=kL.cell 0
      have l1:(w4.alloc (.cells #[.slice a0 xs.length d0,.int .i64 L.stack,.slice a2 L.slots.length d2,.int .i64 L.flash,.int .i64 L.ram,.slice none 0 0] 32)).cell? ⟨w4.heap.size,1,none⟩=some (.int .i64 L.stack):=kL.cell 1
      have l2:(w4.alloc (.cells #[.slice a0 xs.length d0,.int .i64 L.stack,.slice a2 L.slots.length d2,.int .i64 L.flash,.int .i64 L.ram,.slice none 0 0] 32)).cell? ⟨w4.heap.size,2,none⟩=some (.slice a2 L.slots.length d2):=kL.cell 2
      have l3:(w4.alloc (.cells #[.slice a0 xs.length d0,.int .i64 L.stack,.slice a2 L.slots.length d2,.int .i64 L.flash,.int .i64 L.ram,.slice none 0 0] 32)).cell? ⟨w4.heap.size,3,none⟩=some (.int .i64 L.flash):=kL.cell 3
      have l4:(w4.alloc (.cells #[.slice a0 xs.length d0,.int .i64 L.stack,.slice a2 L.slots.length d2,.int .i64 L.flash,.int .i64 L.ram,.slice none 0 0] 32)).cell? ⟨w4.heap.size,4,none⟩=some (.int .i64 L.ram):=kL.cell 4
      have l5:(w4.alloc (.cells #[.slice a0 xs.length d0,.int .i64 L.stack,.slice a2 L.slots.length d2,.int .i64 L.flash,.int .i64 L.ram,.slice none 0 0] 32)).cell? ⟨w4.heap.size,5,none⟩=some (.slice none 0 0):=kL.cell 5
      have n5:=kL.frozen 5
      have HKL:=hide kM
      have m0:(w4.alloc (.cells #[.slice a0 xs.length d0,.int .i64 L.stack,.slice a2 L.slots.length d2,.int .i64 L.flash,.int .i64 L.ram,.slice (some ⟨gt,0,none⟩) n n] 32)).cell? ⟨w4.heap.size,0,none⟩=some (.slice a0 xs.length d0):=kM.cell 0
      have m1:(w4.alloc (.cells #[.slice a0 xs.length d0,.int .i64 L.stack,.slice a2 L.slots.length d2,.int .i64 L.flash,.int .i64 L.ram,.slice (some ⟨gt,0,none⟩) n n] 32)).cell? ⟨w4.heap.size,1,none⟩=some (.int .i64 L.stack):=kM.cell 1
      have m2:(w4.alloc (.cells #[.slice a0 xs.length d0,.int .i64 L.stack,.slice a2 L.slots.length d2,.int .i64 L.flash,.int .i64 L.ram,.slice (some ⟨gt,0,none⟩) n n] 32)).cell? ⟨w4.heap.size,2,none⟩=some (.slice a2 L.slots.length d2):=kM.cell 2
      have m3:(w4.alloc (.cells #[.slice a0 xs.length d0,.int .i64 L.stack,.slice a2 L.slots.length d2,.int .i64 L.flash,.int .i64 L.ram,.slice (some ⟨gt,0,none⟩) n n] 32)).cell? ⟨w4.heap.size,3,none⟩=some (.int .i64 L.flash):=kM.cell 3
      have m4:(w4.alloc (.cells #[.slice a0 xs.length d0,.int .i64 L.stack,.slice a2 L.slots.length d2,.int .i64 L.flash,.int .i64 L.ram,.slice (some ⟨gt,0,none⟩) n n] 32)).cell? ⟨w4.heap.size,4,none⟩=some (.int .i64 L.ram):=kM.cell 4
      have m5:(w4.alloc (.cells #[.slice a0 xs.length d0,.int .i64 L.stack,.slice a2 L.slots.length d2,.int .i64 L.flash,.int .i64 L.ram,.slice (some ⟨gt,0,none⟩) n n] 32)).cell? ⟨w4.heap.size,5,none⟩=some (.slice (some ⟨gt,0,none⟩) n n):=kM.cell 5
      have HS5:=hide (And.intro S5 (And.intro LO6 (And.intro TF6 S6)))
      clear hb4 S4 TF4 LO al kL hL HS HTF HLA c0 c1 c2 c3 alM kM TF5 LO5
      unfold layV
      by_cases h7:16384<L.flash
      ·have HP:=hide (lkc_7 (d:=d) HS4.out HI.out HN6.out (by rw [← HLL.out];exact h7))
       have p0:(w4.alloc (.cells #[.slice a0 xs.length d0,.int .i64 L.stack,.slice a2 L.slots.length d2,.int .i64 L.flash,.int .i64 L.ram,.slice none 0 0] 32)).cell? ⟨w.heap.size+1,0,none⟩=some (.slice none 0 0):=S5.k1.cell 0
       have p1:(w4.alloc (.cells #[.slice a0 xs.length d0,.int .i64 L.stack,.slice a2 L.slots.length d2,.int .i64 L.flash,.int .i64 L.ram,.slice none 0 0] 32)).cell? ⟨w.heap.size+1,1,none⟩=some (.int .i64 0):=S5.k1.cell 1
       have p2:(w4.alloc (.cells #[.slice a0 xs.length d0,.int .i64 L.stack,.slice a2 L.slots.length d2,.int .i64 L.flash,.int .i64 L.ram,.slice none 0 0] 32)).cell? ⟨w.heap.size+1,2,none⟩=some (.slice none 0 0):=S5.k1.cell 2
       have p3:(w4.alloc (.cells #[.slice a0 xs.length d0,.int .i64 L.stack,.slice a2 L.slots.length d2,.int .i64 L.flash,.int .i64 L.ram,.slice none 0 0] 32)).cell? ⟨w.heap.size+1,3,none⟩=some (.int .i64 0):=S5.k1.cell 3
       have p4:(w4.alloc (.cells #[.slice a0 xs.length d0,.int .i64 L.stack,.slice a2 L.slots.length d2,.int .i64 L.flash,.int .i64 L.ram,.slice none 0 0] 32)).cell? ⟨w.heap.size+1,4,none⟩=some (.int .i64 0):=S5.k1.cell 4
       have p5:(w4.alloc (.cells #[.slice a0 xs.length d0,.int .i64 L.stack,.slice a2 L.slots.length d2,.int .i64 L.flash,.int .i64 L.ram,.slice none 0 0] 32)).cell? ⟨w.heap.size+1,5,none⟩=some (.slice none 0 0):=S5.k1.cell 5
       have y0:(w4.alloc (.cells #[.slice a0 xs.length d0,.int .i64 L.stack,.slice a2 L.slots.length d2,.int .i64 L.flash,.int .i64 L.ram,.slice none 0 0] 32)).frozen? ⟨w.heap.size+1,0,none⟩=false:=S5.k1.frozen 0
       have y1:(w4.alloc (.cells #[.slice a0 xs.length d0,.int .i64 L.stack,.slice a2 L.slots.length d2,.int .i64 L.flash,.int .i64 L.ram,.slice none 0 0] 32)).frozen? ⟨w.heap.size+1,1,none⟩=false:=S5.k1.frozen 1
       have y2:(w4.alloc (.cells #[.slice a0 xs.length d0,.int .i64 L.stack,.slice a2 L.slots.length d2,.int .i64 L.flash,.int .i64 L.ram,.slice none 0 0] 32)).frozen? ⟨w.heap.size+1,2,none⟩=false:=S5.k1.frozen 2
       have y3:(w4.alloc (.cells #[.slice a0 xs.length d0,.int .i64 L.stack,.slice a2 L.slots.length d2,.int .i64 L.flash,.int .i64 L.ram,.slice none 0 0] 32)).frozen? ⟨w.heap.size+1,3,none⟩=false:=S5.k1.frozen 3
       have y4:(w4.alloc (.cells #[.slice a0 xs.length d0,.int .i64 L.stack,.slice a2 L.slots.length d2,.int .i64 L.flash,.int .i64 L.ram,.slice none 0 0] 32)).frozen? ⟨w.heap.size+1,4,none⟩=false:=S5.k1.frozen 4
       have y5:(w4.alloc (.cells #[.slice a0 xs.length d0,.int .i64 L.stack,.slice a2 L.slots.length d2,.int .i64 L.flash,.int .i64 L.ram,.slice none 0 0] 32)).frozen? ⟨w.heap.size+1,5,none⟩=false:=S5.k1.frozen 5
       clear S5 S6 LO6 TF6
       go_wp2
       exact link_noI HS5.out.1 HP.out (by decide) _ rfl rfl
      ·have h7':¬ 16384<L.flash:=h7
       by_cases h8:16384<L.ram
       ·have HP:=hide (lkc_8 (d:=d) HS4.out HI.out HN6.out (by rw [← HLL.out];exact h7) (by rw [← HLL.out];exact h8))
        have p0:(w4.alloc (.cells #[.slice a0 xs.length d0,.int .i64 L.stack,.slice a2 L.slots.length d2,.int .i64 L.flash,.int .i64 L.ram,.slice none 0 0] 32)).cell? ⟨w.heap.size+1,0,none⟩=some (.slice none 0 0):=S5.k1.cell 0
        have p1:(w4.alloc (.cells #[.slice a0 xs.length d0,.int .i64 L.stack,.slice a2 L.slots.length d2,.int .i64 L.flash,.int .i64 L.ram,.slice none 0 0] 32)).cell? ⟨w.heap.size+1,1,none⟩=some (.int .i64 0):=S5.k1.cell 1
        have p2:(w4.alloc (.cells #[.slice a0 xs.length d0,.int .i64 L.stack,.slice a2 L.slots.length d2,.int .i64 L.flash,.int .i64 L.ram,.slice none 0 0] 32)).cell? ⟨w.heap.size+1,2,none⟩=some (.slice none 0 0):=S5.k1.cell 2
        have p3:(w4.alloc (.cells #[.slice a0 xs.length d0,.int .i64 L.stack,.slice a2 L.slots.length d2,.int .i64 L.flash,.int .i64 L.ram,.slice none 0 0] 32)).cell? ⟨w.heap.size+1,3,none⟩=some (.int .i64 0):=S5.k1.cell 3
        have p4:(w4.alloc (.cells #[.slice a0 xs.length d0,.int .i64 L.stack,.slice a2 L.slots.length d2,.int .i64 L.flash,.int .i64 L.ram,.slice none 0 0] 32)).cell? ⟨w.heap.size+1,4,none⟩=some (.int .i64 0):=S5.k1.cell 4
        have p5:(w4.alloc (.cells #[.slice a0 xs.length d0,.int .i64 L.stack,.slice a2 L.slots.length d2,.int .i64 L.flash,.int .i64 L.ram,.slice none 0 0] 32)).cell? ⟨w.heap.size+1,5,none⟩=some (.slice none 0 0):=S5.k1.cell 5
        have y0:(w4.alloc (.cells #[.slice a0 xs.length d0,.int .i64 L.stack,.slice a2 L.slots.length d2,.int .i64 L.flash,.int .i64 L.ram,.slice none 0 0] 32)).frozen? ⟨w.heap.size+1,0,none⟩=false:=S5.k1.frozen 0
        have y1:(w4.alloc (.cells #[.slice a0 xs.length d0,.int .i64 L.stack,.slice a2 L.slots.length d2,.int .i64 L.flash,.int .i64 L.ram,.slice none 0 0] 32)).frozen? ⟨w.heap.size+1,1,none⟩=false:=S5.k1.frozen 1
        have y2:(w4.alloc (.cells #[.slice a0 xs.length d0,.int .i64 L.stack,.slice a2 L.slots.length d2,.int .i64 L.flash,.int .i64 L.ram,.slice none 0 0] 32)).frozen? ⟨w.heap.size+1,2,none⟩=false:=S5.k1.frozen 2
        have y3:(w4.alloc (.cells #[.slice a0 xs.length d0,.int .i64 L.stack,.slice a2 L.slots.length d2,.int .i64 L.flash,.int .i64 L.ram,.slice none 0 0] 32)).frozen? ⟨w.heap.size+1,3,none⟩=false:=S5.k1.frozen 3
        have y4:(w4.alloc (.cells #[.slice a0 xs.length d0,.int .i64 L.stack,.slice a2 L.slots.length d2,.int .i64 L.flash,.int .i64 L.ram,.slice none 0 0] 32)).frozen? ⟨w.heap.size+1,4,none⟩=false:=S5.k1.frozen 4
        have y5:(w4.alloc (.cells #[.slice a0 xs.length d0,.int .i64 L.stack,.slice a2 L.slots.length d2,.int .i64 L.flash,.int .i64 L.ram,.slice none 0 0] 32)).frozen? ⟨w.heap.size+1,5,none⟩=false:=S5.k1.frozen 5
        clear S5 S6 LO6 TF6
        go_wp2
        exact link_noI HS5.out.1 HP.out (by decide) _ rfl rfl
       ·have HP:=hide (lkc_0 (d:=d) HS4.out HI.out HN6.out (by rw [← HLL.out];exact h7) (by rw [← HLL.out];exact h8))
        have p0:(w4.alloc (.cells #[.slice a0 xs.length d0,.int .i64 L.stack,.slice a2 L.slots.length d2,.int .i64 L.flash,.int .i64 L.ram,.slice (some ⟨gt,0,none⟩) n n] 32)).cell? ⟨w.heap.size+1,0,none⟩=some (.slice none 0 0):=S6.k1.cell 0
        have p1:(w4.alloc (.cells #[.slice a0 xs.length d0,.int .i64 L.stack,.slice a2 L.slots.length d2,.int .i64 L.flash,.int .i64 L.ram,.slice (some ⟨gt,0,none⟩) n n] 32)).cell? ⟨w.heap.size+1,1,none⟩=some (.int .i64 0):=S6.k1.cell 1
        have p2:(w4.alloc (.cells #[.slice a0 xs.length d0,.int .i64 L.stack,.slice a2 L.slots.length d2,.int .i64 L.flash,.int .i64 L.ram,.slice (some ⟨gt,0,none⟩) n n] 32)).cell? ⟨w.heap.size+1,2,none⟩=some (.slice none 0 0):=S6.k1.cell 2
        have p3:(w4.alloc (.cells #[.slice a0 xs.length d0,.int .i64 L.stack,.slice a2 L.slots.length d2,.int .i64 L.flash,.int .i64 L.ram,.slice (some ⟨gt,0,none⟩) n n] 32)).cell? ⟨w.heap.size+1,3,none⟩=some (.int .i64 0):=S6.k1.cell 3
        have p4:(w4.alloc (.cells #[.slice a0 xs.length d0,.int .i64 L.stack,.slice a2 L.slots.length d2,.int .i64 L.flash,.int .i64 L.ram,.slice (some ⟨gt,0,none⟩) n n] 32)).cell? ⟨w.heap.size+1,4,none⟩=some (.int .i64 0):=S6.k1.cell 4
        have p5:(w4.alloc (.cells #[.slice a0 xs.length d0,.int .i64 L.stack,.slice a2 L.slots.length d2,.int .i64 L.flash,.int .i64 L.ram,.slice (some ⟨gt,0,none⟩) n n] 32)).cell? ⟨w.heap.size+1,5,none⟩=some (.slice none 0 0):=S6.k1.cell 5
        have y0:(w4.alloc (.cells #[.slice a0 xs.length d0,.int .i64 L.stack,.slice a2 L.slots.length d2,.int .i64 L.flash,.int .i64 L.ram,.slice (some ⟨gt,0,none⟩) n n] 32)).frozen? ⟨w.heap.size+1,0,none⟩=false:=S6.k1.frozen 0
        have y1:(w4.alloc (.cells #[.slice a0 xs.length d0,.int .i64 L.stack,.slice a2 L.slots.length d2,.int .i64 L.flash,.int .i64 L.ram,.slice (some ⟨gt,0,none⟩) n n] 32)).frozen? ⟨w.heap.size+1,1,none⟩=false:=S6.k1.frozen 1
        have y2:(w4.alloc (.cells #[.slice a0 xs.length d0,.int .i64 L.stack,.slice a2 L.slots.length d2,.int .i64 L.flash,.int .i64 L.ram,.slice (some ⟨gt,0,none⟩) n n] 32)).frozen? ⟨w.heap.size+1,2,none⟩=false:=S6.k1.frozen 2
        have y3:(w4.alloc (.cells #[.slice a0 xs.length d0,.int .i64 L.stack,.slice a2 L.slots.length d2,.int .i64 L.flash,.int .i64 L.ram,.slice (some ⟨gt,0,none⟩) n n] 32)).frozen? ⟨w.heap.size+1,3,none⟩=false:=S6.k1.frozen 3
        have y4:(w4.alloc (.cells #[.slice a0 xs.length d0,.int .i64 L.stack,.slice a2 L.slots.length d2,.int .i64 L.flash,.int .i64 L.ram,.slice (some ⟨gt,0,none⟩) n n] 32)).frozen? ⟨w.heap.size+1,4,none⟩=false:=S6.k1.frozen 4
        have y5:(w4.alloc (.cells #[.slice a0 xs.length d0,.int .i64 L.stack,.slice a2 L.slots.length d2,.int .i64 L.flash,.int .i64 L.ram,.slice (some ⟨gt,0,none⟩) n n] 32)).frozen? ⟨w.heap.size+1,5,none⟩=false:=S6.k1.frozen 5
        clear S5 S6 LO6 TF6
        go_wp2
        refine link_endI HS5.out.2.2.2.k1 _ _ _ _ _ _ 0 _ _ rfl rfl ?_
        obtain ⟨S5,LO5,TF5,S6⟩:=HS5.out
        have t:=turn_st6 (w4.alloc (.cells #[.slice a0 xs.length d0,.int .i64 L.stack,.slice a2 L.slots.length d2,.int .i64 L.flash,.int .i64 L.ram,.slice (some ⟨gt,0,none⟩) n n] 32)) (w.heap.size+1) (.slice a0 xs.length d0) (.int .i64 L.stack) (.slice a2 L.slots.length d2) (.int .i64 L.flash) (.int .i64 L.ram) (.slice (some ⟨gt,0,none⟩) n n)
        have OT:=TF5.otg (c:=n) (Nat.le_refl _) (by unfold maxLen;omega) rfl
        have key:∀ (base sz nn:Nat) (ty:TypeId) (v:Value) (ys:List Value),(w4.alloc (.cells #[.slice a0 xs.length d0,.int .i64 L.stack,.slice a2 L.slots.length d2,.int .i64 L.flash,.int .i64 L.ram,.slice (some ⟨gt,0,none⟩) n n] 32)).ownsRow base ty sz v nn ys→ty≠32→∀ j,v.ownBlock=some j→¬ (fun j=>j=w.heap.size+1) j:=fun base sz nn ty v ys ho hne j hj e=>by
         have e':j=w.heap.size+1:=e
         subst e'
         exact kind_no ho hj S6.k1 hne
        refine ⟨below_turn S6.be (turn_st6 _ _ _ _ _ _ _ _) (fun j hj=>by have e:j=w.heap.size+1:=hj;omega) S6.be.size,a0,d0,xs,a2,d2,some ⟨gt,0,none⟩,n,(List.range n).map f,?_,?_⟩
        ·unfold lkL layV;rw [if_pos HP.out,HP.out,← HLL.out];simp
        ·unfold lkL;rw [if_pos HP.out,← HLL.out]
         exact ⟨(LO5.p.kept t (key _ _ _ _ _ _ LO5.p.head (by decide)) (fun x hx=>key _ _ _ _ _ _ (LO5.p.rows x hx) (by decide))).mono (by omega) (by omega),LO5.ps,(LO5.s.kept t (key _ _ _ _ _ _ LO5.s (by decide))).mono (by omega),(OT.kept t (key _ _ _ _ _ _ OT.head (by decide)) (fun x hx=>key _ _ _ _ _ _ (OT.rows x hx) (by decide))).mono (by omega) (by omega),by rw [HLL.out];unfold lay;rw [hpl,List.map_map];exact List.map_congr_left (fun i hi=>HFE.out i (by simpa using hi)),LO5.sp⟩
 ·have hV0':(V != 0)=true:=by simp [hV0]
  have HP:=hide (lkc_1 (ps:=pmS ms) HV.out.symm hV0)
  have HS:=hide S1
  have p0:w1.cell? ⟨w.heap.size+1,0,none⟩=some (.slice none 0 0):=S1.k1.cell 0
  have p1:w1.cell? ⟨w.heap.size+1,1,none⟩=some (.int .i64 0):=S1.k1.cell 1
  have p2:w1.cell? ⟨w.heap.size+1,2,none⟩=some (.slice none 0 0):=S1.k1.cell 2
  have p3:w1.cell? ⟨w.heap.size+1,3,none⟩=some (.int .i64 0):=S1.k1.cell 3
  have p4:w1.cell? ⟨w.heap.size+1,4,none⟩=some (.int .i64 0):=S1.k1.cell 4
  have p5:w1.cell? ⟨w.heap.size+1,5,none⟩=some (.slice none 0 0):=S1.k1.cell 5
  have y0:w1.frozen? ⟨w.heap.size+1,0,none⟩=false:=S1.k1.frozen 0
  have y1:w1.frozen? ⟨w.heap.size+1,1,none⟩=false:=S1.k1.frozen 1
  have y2:w1.frozen? ⟨w.heap.size+1,2,none⟩=false:=S1.k1.frozen 2
  have y3:w1.frozen? ⟨w.heap.size+1,3,none⟩=false:=S1.k1.frozen 3
  have y4:w1.frozen? ⟨w.heap.size+1,4,none⟩=false:=S1.k1.frozen 4
  have y5:w1.frozen? ⟨w.heap.size+1,5,none⟩=false:=S1.k1.frozen 5
  clear S1
  go_wp2
  exact link_noI HS.out HP.out hV0 _ rfl rfl
set_option maxHeartbeats 4000000 in
theorem layoutOk_any (a:Option Addr) (n cap:Nat) (ms:List Md) (L:Lay) (a0:Option Addr) (c0:Nat) (xs:List PB) (a2:Option Addr) (c2:Nat) (a5:Option Addr) (c5:Nat) (ts:List TB) (w:World) (h:MSD w a n cap ms) (hL:LyT w L a0 c0 xs a2 c2 a5 c5 ts):
 Calls Tryz.prog 66 #[.slice a n cap,.agg #[.slice a0 xs.length c0,.int .i64 L.stack,.slice a2 L.slots.length c2,.int .i64 L.flash,.int .i64 L.ram,.slice a5 ts.length c5]] w fun e w'=>e=.returned (.bool (decide (Lok (pmS ms) L)))∧Below w.heap.size w w':=by
 obtain ⟨r,hr⟩:∃ r,r=decide (Lok (pmS ms) L):=⟨_,rfl⟩
 rw [← hr]
 replace hr:r=true ↔ Lok (pmS ms) L:=by rw [hr];simp
 unfold Lok at hr
 have HLB:=hide (layB_lk (pmS ms) (L.slots.length:Int) (cfW L) (cfK L) 0)
 have HLV:=hide (lkL_v (pmS ms) (L.slots.length:Int) (cfW L) (cfK L) 0)
 have HIM:=hide (fun (W:World) (hb:Below w.heap.size w W)=>by
  have:=iLink_any a n cap ms (L.slots.length:Int) (cfW L) (cfK L) 0 W (h.below hb)
  unfold LkM layV at this
  exact this)
 generalize lkL (pmS ms) (L.slots.length:Int) (cfW L) (cfK L) 0=LY at *
 generalize lkc (pmS ms) (L.slots.length:Int) (cfW L) (cfK L) 0=C at *
 have HR:=hide hr
 have HCF:=hide (fun (W:World) (hb:Below w.heap.size w W)=>configOf_any L a0 c0 xs a2 c2 a5 c5 ts W (hL.below hb))
 have B0:Below w.heap.size w (w.alloc (.cells #[.slice a0 xs.length c0,.int .i64 L.stack,.slice a2 L.slots.length c2,.int .i64 L.flash,.int .i64 L.ram,.slice a5 ts.length c5] 32)):=(Below.refl _ _).alloc (Nat.le_refl _) _
 have k0:=Blk.new w #[.slice a0 xs.length c0,.int .i64 L.stack,.slice a2 L.slots.length c2,.int .i64 L.flash,.int .i64 L.ram,.slice a5 ts.length c5] 32
 have HL:=hide hL
 clear h hL hr
 go_enter Tryz.func66,Tryz.ntmps66
 go_wp2_with fail
 refine (HCF.out _ B0).mono ?_
 rintro e w1 ⟨rfl,hb1⟩
 have B1:=B0.trans (hb1.mono B0.size)
 have k1:=k0.below hb1
 clear hb1 B0 k0
 go_wp2_with fail
 refine (HIM.out _ B1).mono ?_
 rintro e w2 ⟨hb2,b0,d0,ys,b2,d2,b5,d5,us,rfl,O2⟩
 have hA:Below w2.heap.size w2 (w2.alloc (.cells #[.slice b0 ys.length d0,.int .i64 LY.stack,.slice b2 LY.slots.length d2,.int .i64 LY.flash,.int .i64 LY.ram,.slice b5 us.length d5] 32)):=(Below.refl _ _).alloc (Nat.le_refl _) _
 have kt:=Blk.new w2 #[.slice b0 ys.length d0,.int .i64 LY.stack,.slice b2 LY.slots.length d2,.int .i64 LY.flash,.int .i64 LY.ram,.slice b5 us.length d5] 32
 have B2:=B1.trans (hb2.mono B1.size)
 have B3:=B2.trans (hA.mono B2.size)
 have k3:=(k1.below hb2).below hA
 have O3:=O2.below' hA
 have HSM:=hide (sameLayout_any LY b0 d0 ys b2 d2 b5 d5 us L a0 c0 xs a2 c2 a5 c5 ts _ (O3.lyt HLB.out.r HLV.out) (HL.out.below B3))
 have HB3:=hide B3
 obtain ⟨p0,p1,p2,p3,p4,p5⟩:=k3.ly6
 obtain ⟨q0,q1,q2,q3,q4,q5⟩:=kt.ly6
 clear hb2 O2 O3 hA B1 B2 B3 k1 k3 kt
 by_cases hC:C=0
 ·have g:(C == 0)=true:=by simpa using hC
  have HV:=hide (show decide (LY=L)=r by rw [Bool.eq_iff_iff,HR.out];simp [hC])
  rw [HV.out] at HSM
  clear hC HR
  go_wp2_with fail
  refine HSM.out.mono ?_
  rintro e w4 ⟨rfl,hb4⟩
  have HB4:=hide (HB3.out.trans (hb4.mono HB3.out.size))
  clear hb4
  cases r
  all_goals
   go_wp2
   go_ret
   exact ⟨rfl,HB4.out⟩
 ·have g:(C == 0)=false:=by simpa using hC
  have HV:=hide (show r=false by cases r;rfl;exact absurd (HR.out.1 rfl).1 hC)
  clear hC HR
  go_wp2
  go_ret
  exact ⟨ret_bool HV.out.symm,HB3.out⟩
def slF (L:Lay) (b:Int):List Int:=if b=-1∨L.slots=[] then [-1] else (List.range L.slots.length).map (fun i:Nat=>(i:Int))
theorem is_one {w:World} {g:Nat} {v:Int} (hv:wfi v) (h:w.cell? ⟨g,0,none⟩=some (.int .i64 v)):IS w (some ⟨g,0,none⟩) 1 1 [v]:=by
 refine ⟨rfl,by unfold maxLen;omega,fun z hz=>?_,fun _=>⟨g,0,rfl,fun i hi=>?_⟩,Nat.le_refl _⟩
 ·simp at hz;rw [hz];exact hv
 ·obtain rfl:i=0:=by omega
  simpa using h
set_option maxHeartbeats 1000000 in
theorem slotsFor_one (L:Lay) (a0:Option Addr) (c0:Nat) (xs:List PB) (a2:Option Addr) (c2:Nat) (a5:Option Addr) (c5:Nat) (ts:List TB) (b:Int) (w:World) (h:LyT w L a0 c0 xs a2 c2 a5 c5 ts) (hb:b=-1∨L.slots=[]):
 Calls Tryz.prog 113 #[.agg #[.slice a0 xs.length c0,.int .i64 L.stack,.slice a2 L.slots.length c2,.int .i64 L.flash,.int .i64 L.ram,.slice a5 ts.length c5],.int .i64 b] w fun e w'=>∃ a c,e=.returned (.slice a (slF L b).length c)∧IS w' a (slF L b).length c (slF L b)∧Below w.heap.size w w':=by
 have HS:=hide (show slF L b=[-1] by unfold slF;rw [if_pos hb])
 rw [HS.out]
 show Calls Tryz.prog 113 _ w fun e w'=>∃ a c,e=.returned (.slice a 1 c)∧IS w' a 1 c [-1]∧Below w.heap.size w w'
 have HB:=hide (show Below w.heap.size w (w.alloc (.cells #[.slice a0 xs.length c0,.int .i64 L.stack,.slice a2 L.slots.length c2,.int .i64 L.flash,.int .i64 L.ram,.slice a5 ts.length c5] 32)) from (Below.refl _ _).alloc (Nat.le_refl _) _)
 clear HS
 by_cases c:b=-1
 ·subst c
  clear hb h
  generalize xs.length=n at *
  generalize L.slots.length=l at *
  generalize ts.length=k at *
  go_enter Tryz.func113,Tryz.ntmps113
  go_wp2
  go_ret
  refine ⟨_,_,rfl,is_one (by unfold wfi;omega) ?_,HB.out.alloc HB.out.size _⟩
  rw [show w.heap.size+1=(w.alloc _).heap.size from (World.size_alloc _ _).symm]
  exact (Blk.new _ _ _).cell 0
 ·have hl:L.slots.length=0:=by rw [hb.resolve_left c];rfl
  have hz:(b == -1)=false:=by simpa using c
  rw [hl]
  rw [hl] at HB
  clear hb h hl
  generalize xs.length=n at *
  generalize ts.length=k at *
  go_enter Tryz.func113,Tryz.ntmps113
  go_wp2
  go_ret
  refine ⟨_,_,rfl,is_one (by unfold wfi;omega) ?_,HB.out.alloc HB.out.size _⟩
  rw [show w.heap.size+1=(w.alloc _).heap.size from (World.size_alloc _ _).symm]
  exact (Blk.new _ _ _).cell 0
def upN (n:Nat):List Int:=(List.range n).map (fun i:Nat=>(i:Int))
theorem upN_len (n:Nat):(upN n).length=n:=by simp [upN]
theorem upN_at (n k:Nat) (h:k<n):(upN n).getD k 0=(k:Int):=by simp [upN,List.getD_eq_getElem?_getD,h]
set_option maxHeartbeats 1000000 in
theorem slotsFor_many (L:Lay) (a0:Option Addr) (c0:Nat) (xs:List PB) (a2:Option Addr) (c2:Nat) (a5:Option Addr) (c5:Nat) (ts:List TB) (b:Int) (l:Nat) (w:World) (hb:¬ b=-1) (h0:¬ l=0) (h1:l≤1048576):
 Calls Tryz.prog 113 #[.agg #[.slice a0 xs.length c0,.int .i64 L.stack,.slice a2 l c2,.int .i64 L.flash,.int .i64 L.ram,.slice a5 ts.length c5],.int .i64 b] w fun e w'=>∃ g,e=.returned (.slice (some ⟨g,0,none⟩) l l)∧RowI w' g (upN l)∧Below w.heap.size w w':=by
 obtain ⟨i0,hi,hz0,hz1,hz2⟩:=info_parts infoI
 have hz:(b == -1)=false:=by simpa using hb
 have hl0:((l:Int) == 0)=false:=by simpa using h0
 obtain ⟨W,hW⟩:∃ W,W=w.alloc (.cells #[.slice a0 xs.length c0,.int .i64 L.stack,.slice a2 l c2,.int .i64 L.flash,.int .i64 L.ram,.slice a5 ts.length c5] 32):=⟨_,rfl⟩
 have HBW:=hide (show Below w.heap.size w W by rw [hW];exact (Below.refl _ _).alloc (Nat.le_refl _) _)
 have k0:Blk W w.heap.size #[.slice a0 xs.length c0,.int .i64 L.stack,.slice a2 l c2,.int .i64 L.flash,.int .i64 L.ram,.slice a5 ts.length c5] 32:=by rw [hW];exact Blk.new w _ _
 have d2:W.cell? ⟨w.heap.size,2,none⟩=some (.slice a2 l c2):=k0.cell 2
 have HW:=hide hW
 clear hW k0
 generalize xs.length=n at *
 generalize ts.length=k at *
 go_enter Tryz.func113,Tryz.ntmps113
 go_wp2_with (first | rw [← HW.out] | (at_make;refine wpList_make_full _ rfl _ _ 29 rfl W.heap.size 3 i0 (.int .i64 0) 1 Tryz.underlying29 hi hz0 hz1 .i64 .i64 _ _ l rfl rfl rfl rfl (by rw [hz2];omega) (by unfold maxLen;omega) (Nat.le_refl _) ?_;intro w1 hown hgr))
 have hrow:=rowI_of_made hown
 have hbel:=below_grown hgr
 clear hown hgr hi hz0 hz1 hz2 d2
 go_loopw [6,22] (fun _ i wr=>∃ k:Nat,k≤l∧i=.int .i64 k∧RowI wr W.heap.size (mid (upN l) k)∧Below W.heap.size W wr) (fun _ i _=>l - (intOf i).toNat)
 case atStart=>exact ⟨0,Nat.zero_le _,rfl,by rw [mid_zero,upN_len];exact hrow,hbel⟩
 case round=>
  obtain ⟨k,hk,rfl,hR,hB⟩:=hrel
  clear hrow hbel
  by_cases hlt:k<l
  ·have hlt':(k:Int)<(l:Int):=by omega
   have hgk:wr.cell? ⟨W.heap.size,k,none⟩=some (.int .i64 ((mid (upN l) k).getD k 0)):=hR.cell k (by rw [mid_len,upN_len];omega)
   have hfk:wr.frozen? ⟨W.heap.size,k,none⟩=false:=hR.frozen k
   have R':=hR.set k ((upN l).getD k 0)
   rw [mid_set (upN l) k (by rw [upN_len];omega),upN_at l k hlt] at R'
   have B':Below W.heap.size W (wr.setCell ⟨W.heap.size,k,none⟩ (.int .i64 (k:Int))):=hB.setCell (Nat.le_refl _) _
   have HR:=hide R'
   have HB:=hide B'
   generalize (mid (upN l) k).getD k 0=z0 at *
   clear hR hB R' B'
   go_wp2
   go_roundw
   case rel=>exact ⟨k+1,by omega,by go_num,HR.out,HB.out⟩
   case measure=>simp [intOf];omega
  ·have e:Hid (k=l):=by show k=l;omega
   have HX:=hide (And.intro hR hB)
   clear hR hB
   go_wp2
   go_ret
   refine ⟨_,rfl,?_,HBW.out.trans (HX.out.2.mono HBW.out.size)⟩
   have:=HX.out.1
   have e2:mid (upN l) l=upN l:=by have:=mid_all (upN l);rwa [upN_len] at this
   rw [e.out,e2] at this
   exact this
end Go.Proofs.YtngdgogjlpjjpadGreat
namespace Go.Proofs.YtngdgogjlpjjpadGreat
open Go.RowKit Classical
set_option linter.unusedVariables false
set_option maxHeartbeats 1000000 in
theorem regionsOk_any (x:Option Addr) (n cap:Nat) (rs:List Rg) (w:World) (h:RS w x n cap rs) (F:Bool) (hF:F=(decide (n≤8) && okB rs n)):
 Calls Tryz.prog 120 #[.slice x n cap] w fun e w'=>e=.returned (.bool F)∧Below w.heap.size w w':=by
 have hl:=h.1
 have hmx:=h.2.1
 unfold maxLen at hmx
 have HF:=hide hF
 clear hF
 by_cases h8:8<n
 ·have h8':(8:Int)<(n:Int):=by omega
  go_enter Tryz.func120,Tryz.ntmps120
  go_wp2
  go_ret
  exact ⟨ret_bool (by rw [HF.out];simp [show ¬ n≤8 by omega]),Below.refl _ _⟩
 ·have h8':¬ (8:Int)<(n:Int):=by omega
  go_enter Tryz.func120,Tryz.ntmps120
  go_wp2
  go_loopw [10] (fun i wr=>∃ j:Nat,j≤n∧i=.int .i64 j∧okTo rs j∧Below w.heap.size w wr) (fun i _=>n - (intOf i).toNat)
  case atStart=>exact ⟨0,Nat.zero_le _,rfl,fun i hi=>absurd hi (by omega),Below.refl _ _⟩
  case round=>
   obtain ⟨j,hj,rfl,hok,hB⟩:=hrel
   by_cases hlt:j<n
   ·obtain ⟨b,off,rfl⟩:=h.some (by omega)
    have hin:(j:Int)<(n:Int):=by omega
    have hbw:b<wr.heap.size:=World.block_lt_of_cell? wr _ ((h.below hB).at j hlt).1
    have hat:=(h.below hB).at j hlt
    have HOK:=hide hok
    clear hok
    have hw1:=h.2.2.1 (rs.getD j z6) (by simp [List.getD_eq_getElem?_getD,show j<rs.length by omega])
    have hbad:gok (rs.getD j z6)=false→okB rs n=false:=okB_false hlt
    have hgood:gok (rs.getD j z6)=true→okTo rs (j+1):=okTo_succ HOK.out
    have HBAD:=hide hbad
    have HGOOD:=hide hgood
    clear hbad hgood
    generalize rs.getD j z6=g at *
    obtain ⟨g1,g2,g3,g4,g5,g6⟩:=g
    have hw:=wfl hw1.1
    clear hw1
    have q1:=hat.1
    have q2:=hat.2.1
    have q3:=hat.2.2.1
    have q4:=hat.2.2.2.1
    have q5:=hat.2.2.2.2.1
    have q6:=hat.2.2.2.2.2
    simp only at q1 q2 q3 q4 q5 q6
    have hBw:Below w.heap.size w wr:=hB
    have hsz:=hB.size
    go_wp2_with fail
    refine (iRegionOk_any g1 g2 g3 g4 g5 g6 _ hw).mono ?_
    rintro e w1 ⟨rfl,hb1⟩
    have hB1:=(hB.alloc hB.size (.cells #[.int .i64 g1,.int .i64 g2,.int .i64 g3,.bool g4,.bool g5,.bool g6] 135)).trans (hb1.mono (by simp;omega))
    cases hr:rok g1 g2 g3
    ·have H1:=hide (HBAD.out hr)
     clear hr HBAD HGOOD
     go_wp2
     go_ret
     exact ⟨ret_bool (by rw [HF.out,H1.out];simp),hB1⟩
    ·have H1:=hide (HGOOD.out hr)
     clear hr HBAD HGOOD
     go_wp2
     go_roundw
     case rel=>exact ⟨j+1,by omega,by go_num,H1.out,hB1⟩
     case measure=>simp [intOf];omega
   ·have hjn:j=n:=by omega
    subst hjn
    have HOK:=hide (okB_iff.2 hok)
    clear hok
    go_wp2
    go_ret
    exact ⟨ret_bool (by rw [HF.out,HOK.out];simp;omega),hB⟩
set_option maxHeartbeats 2000000 in
theorem iAllowed_good (x:Option Addr) (j cap:Nat) (rs:List Rg) (a s k:Int) (w:World) (h:RS w x j cap rs) (hn:j≤8) (hs:wd s=true) (hok:okTo rs j) (ha:wfi a) (F:Bool) (hF:F=(okB rs j && upB rs a k j s.toNat)):
 Calls Tryz.prog 39 #[.slice x j cap,.int .i64 a,.int .i64 s,.int .i64 k] w fun e w'=>e=.returned (.bool F)∧Below w.heap.size w w':=by
 have hl:=h.1
 obtain ⟨ha0,ha1⟩:=ha
 have hs4:1≤s∧s≤4:=by have:=hs;simp [wd] at this;omega
 obtain ⟨hs1,hs4⟩:=hs4
 have HS:=hide hs
 have HF:=hide hF
 have HOK:=hide hok
 clear hs hF hok
 go_enter Tryz.func39,Tryz.ntmps39
 go_wp2_with fail
 refine (isWidth_any s _).mono ?_
 rw [HS.out]
 rintro e w2 ⟨rfl,rfl⟩
 go_wp2_with fail
 refine (regionsOk_any x j cap rs _ h true (by rw [okB_iff.2 HOK.out];simp;omega)).mono ?_
 rintro e w0 ⟨rfl,hB⟩
 go_wp2
 go_loopw [19] (fun i wr=>∃ m:Nat,(m:Int)≤s∧i=.int .i64 m∧upTo rs a k j m∧Below w.heap.size w wr) (fun i _=>s.toNat - (intOf i).toNat)
 case atStart=>exact ⟨0,by omega,rfl,fun i hi=>absurd hi (by omega),hB⟩
 case round=>
  obtain ⟨m,hm,rfl,hup,hB⟩:=hrel
  by_cases hlt:(m:Int)<s
  ·have hbad:oneTo rs (wrap64 (a+m)) k j=false→upB rs a k j s.toNat=false:=upB_false (by omega)
   have hgood:oneTo rs (wrap64 (a+m)) k j=true→upTo rs a k j (m+1):=upTo_succ hup
   have HBAD:=hide hbad
   have HGOOD:=hide hgood
   have HUP:=hide hup
   clear hbad hgood hup
   go_wp2_with fail
   refine (addr_any x j cap rs _ k _ (h.below hB) (okTo_all hl HOK.out) (wrap_wfi _) hn).mono ?_
   generalize oneTo rs (wrap64 (a+m)) k j=r at *
   rintro e w1 ⟨rfl,hb1⟩
   have hB1:=hB.trans (hb1.mono hB.size)
   cases r
   ·have H1:=hide (HBAD.out rfl)
    clear HBAD HGOOD
    go_wp2
    go_ret
    exact ⟨ret_bool (by rw [HF.out,H1.out];simp),hB1⟩
   ·have H1:=hide (HGOOD.out rfl)
    clear HBAD HGOOD
    go_wp2
    go_roundw
    case rel=>exact ⟨m+1,by omega,by go_num,H1.out,hB1⟩
    case measure=>simp [intOf];omega
  ·have hms:s.toNat=m:=by omega
   have HM:=hide (upB_iff.2 hup)
   rw [← hms] at HM
   have HUP:=hide hup
   clear hup hms
   go_wp2
   go_ret
   exact ⟨ret_bool (by rw [HF.out,HM.out];rw [okB_iff.2 HOK.out];rfl),hB⟩
set_option maxHeartbeats 1000000 in
theorem iAllowed_bad (x:Option Addr) (n cap:Nat) (rs:List Rg) (a s k:Int) (w:World) (h:RS w x n cap rs) (hb:wd s=false∨(decide (n≤8) && okB rs n)=false):
 Calls Tryz.prog 39 #[.slice x n cap,.int .i64 a,.int .i64 s,.int .i64 k] w fun e w'=>e=.returned (.bool false)∧Below w.heap.size w w':=by
 cases hs:wd s
 ·clear hb
  go_enter Tryz.func39,Tryz.ntmps39
  go_wp2_with fail
  refine (isWidth_any s _).mono ?_
  rw [hs]
  rintro e w2 ⟨rfl,rfl⟩
  go_wp2
  go_ret
  exact ⟨rfl,Below.refl _ _⟩
 ·have hb:=hide (show false=(decide (n≤8) && okB rs n) by rcases hb with hb | hb;rw [hs] at hb;simp at hb;exact hb.symm)
  go_enter Tryz.func39,Tryz.ntmps39
  go_wp2_with fail
  refine (isWidth_any s _).mono ?_
  rw [hs]
  rintro e w2 ⟨rfl,rfl⟩
  go_wp2_with fail
  refine (regionsOk_any x n cap rs _ h false hb.out).mono ?_
  rintro e w0 ⟨rfl,hB⟩
  go_wp2
  go_ret
  exact ⟨rfl,hB⟩
theorem iAllowed_any (x:Option Addr) (n cap:Nat) (rs:List Rg) (a s k:Int) (w:World) (h:RS w x n cap rs) (ha:wfi a):
 Calls Tryz.prog 39 #[.slice x n cap,.int .i64 a,.int .i64 s,.int .i64 k] w fun e w'=>e=.returned (.bool (alw rs n a s k))∧Below w.heap.size w w':=by
 cases hs:wd s
 ·have hf:alw rs n a s k=false:=by simp [alw,hs]
  rw [hf]
  exact iAllowed_bad x n cap rs a s k w h (Or.inl hs)
 ·cases hr:(decide (n≤8) && okB rs n)
  ·have hf:alw rs n a s k=false:=by
    unfold alw
    cases h8:decide (n≤8)
    ·rfl
    ·rw [h8] at hr
     simp at hr
     simp [hr]
   rw [hf]
   exact iAllowed_bad x n cap rs a s k w h (Or.inr hr)
  ·simp at hr
   exact iAllowed_good x n cap rs a s k w h hr.1 hs (okB_iff.1 hr.2) ha _ (by simp [alw,hs,hr.1])
end Go.Proofs.YtngdgogjlpjjpadGreat
namespace Go.Proofs.YtngdgogjlpjjpadGreat
open Go.RowKit Classical
set_option linter.unusedVariables false
set_option linter.unusedSimpArgs false
set_option maxRecDepth 100000
theorem flat_len {α:Type}(f:α → List Value)(sz:Nat)(hf:∀ x,(f x).length=sz):∀ xs:List α,(xs.flatMap f).length=xs.length * sz
 | []=>by simp
 | x :: xs=>by simp only [List.flatMap_cons,List.length_append,List.length_cons,flat_len f sz hf xs,hf x];rw [Nat.add_mul];omega
theorem flat_get {α:Type}(f:α → List Value)(sz:Nat)(hf:∀ x,(f x).length=sz)(z:α):∀ (xs:List α) (i j:Nat),i<xs.length→j<sz→(xs.flatMap f)[i * sz+j]?=(f (xs.getD i z))[j]?
 | [],i,j,h,_=>by simp at h
 | x :: xs,0,j,h,hj=>by simp [List.getElem?_append_left (show j<(f x).length by rw [hf];exact hj)]
 | x :: xs,i+1,j,h,hj=>by
   have ih:=flat_get f sz hf z xs i j (by simpa using h) hj
   have e:(i+1) * sz+j=(f x).length+(i * sz+j):=by rw [hf,Nat.add_mul];omega
   rw [List.flatMap_cons,e,List.getElem?_append_right (by omega),Nat.add_sub_cancel_left,ih]
   simp
theorem take_flat {α:Type}(f:α → List Value)(sz:Nat)(hf:∀ x,(f x).length=sz)(z:α){cs:Array Value} {xs:List α} (h:cs.size=xs.length * sz) (hs:0<sz) (hc:∀ i,i<xs.length→∀ j,j<sz→cs[i * sz+j]?=(f (xs.getD i z))[j]?):cs.toList.take (xs.length * sz)=xs.flatMap f:=by
 apply List.ext_getElem?
 intro k
 by_cases hk:k<xs.length * sz
 ·have e:k=k / sz * sz+k % sz:=by rw [Nat.mul_comm];exact (Nat.div_add_mod k sz).symm
  have h1:k / sz<xs.length:=by rw [Nat.div_lt_iff_lt_mul hs];exact hk
  have h2:k % sz<sz:=Nat.mod_lt _ hs
  rw [List.getElem?_take,if_pos hk,Array.getElem?_toList]
  rw [e,hc _ h1 _ h2,flat_get f sz hf z xs _ _ h1 h2]
 ·rw [List.getElem?_eq_none (by simp;omega),List.getElem?_eq_none (by rw [flat_len f sz hf];omega)]
def RowF {α:Type} (t:TypeId) (sz:Nat) (f:α→List Value) (w:World) (g n:Nat) (F:Nat→α):Prop:=
 ∃ cs,Blk w g cs t∧cs.size=n * sz∧∀ i,i<n→∀ j,j<sz→cs[i * sz+j]?=(f (F i))[j]?
section
variable {α:Type} {t:TypeId} {sz:Nat} {f:α→List Value} {w w':World} {g n:Nat} {F:Nat→α}
theorem RowF.below (h:RowF t sz f w g n F) (hb:Below w.heap.size w w'):RowF t sz f w' g n F:=by
 obtain ⟨cs,h1,h2,h3⟩:=h
 exact ⟨cs,h1.below hb,h2,h3⟩
theorem RowF.lt (h:RowF t sz f w g n F):g<w.heap.size:=by obtain ⟨cs,h1,_⟩:=h;exact h1.lt
theorem RowF.blk (h:RowF t sz f w g n F):∃ cs,Blk w g cs t:=by obtain ⟨cs,h1,_⟩:=h;exact ⟨cs,h1⟩
theorem RowF.cell (h:RowF t sz f w g n F) (hf:∀ x,(f x).length=sz) (i j:Nat) (hi:i<n) (hj:j<sz) (v:Value) (hv:(f (F i))[j]?=some v):w.cell? ⟨g,i * sz+j,none⟩=some v:=by
 obtain ⟨cs,h1,h2,h3⟩:=h
 rw [h1.cell,h3 i hi j hj,hv]
theorem RowF.og (h:RowF t sz f w g n F) (hf:∀ x,(f x).length=sz) (hs:0<sz) {base:Nat} (hg:base≤g) (hn:n≤maxLen) {xs:List α} (hl:xs.length=n) (z:α) (he:∀ i,i<n→F i=xs.getD i z):OG t sz f w base (.slice (some ⟨g,0,none⟩) n n) xs:=by
 obtain ⟨cs,h1,h2,h3⟩:=h
 subst hl
 refine ⟨flat_len f sz hf xs,.inr ⟨g,xs.length,cs,rfl,hg,h1,Nat.le_refl _,hn,h2,take_flat f sz hf z h2 hs (fun i hi j hj=>?_)⟩⟩
 rw [h3 i hi j hj,he i hi]
theorem ar_at {cs:Array Value} {i:Nat} {v:Value} (h:i<cs.size):(cs.setIfInBounds i v)[i]?=some v:=by simp [h]
theorem RowF.set1 (h:RowF t 1 f w g n F) (m:Nat) (hm:m<n) (x:α) (a:Value) (hx:f x=[a]):RowF t 1 f (w.setCell ⟨g,m,none⟩ a) g n (fun i=>if i=m then x else F i):=by
 obtain ⟨cs,h1,h2,h3⟩:=h
 refine ⟨_,h1.set m a,by simp [h2],fun i hi j hj=>?_⟩
 by_cases e:i=m
 ·subst e
  obtain rfl:j=0:=by omega
  simp [hx,h2,hi]
 ·simp only [e,if_false]
  rw [Array.getElem?_setIfInBounds_ne (by omega)]
  exact h3 i hi j hj
theorem RowF.set3 (h:RowF t 3 f w g n F) (m:Nat) (hm:m<n) (x:α) (a b c:Value) (hx:f x=[a,b,c]):RowF t 3 f (((w.setCell ⟨g,m * 3,none⟩ a).setCell ⟨g,m * 3+1,none⟩ b).setCell ⟨g,m * 3+2,none⟩ c) g n (fun i=>if i=m then x else F i):=by
 obtain ⟨cs,h1,h2,h3⟩:=h
 refine ⟨_,((h1.set (m * 3) a).set (m * 3+1) b).set (m * 3+2) c,by simp [h2],fun i hi j hj=>?_⟩
 by_cases e:i=m
 ·subst e
  simp only [if_true,hx]
  match j,hj with
  | 0,_=>exact ar_other (ar_other (ar_at (by rw [h2];omega)) (by omega)) (by omega)
  | 1,_=>exact ar_other (ar_at (by simp [h2];omega)) (by omega)
  | 2,_=>exact ar_at (by simp [h2];omega)
 ·simp only [e,if_false]
  rw [Array.getElem?_setIfInBounds_ne (by omega),Array.getElem?_setIfInBounds_ne (by omega),Array.getElem?_setIfInBounds_ne (by omega)]
  exact h3 i hi j hj
end
structure HR {α β:Type} (th:TypeId) (hs:Nat) (hc:α→List Value) (tr:TypeId) (rs:Nat) (rc:β→List Value) (sv:α→Value) (ct:α→List β) (w:World) (base g n:Nat) (f:Nat→α):Prop where
 head:RowF th hs hc w g n f
 rows:∀ i,i<n→OG tr rs rc w base (sv (f i)) (ct (f i))
 apart:∀ i j,i<n→j<n→i≠j→∀ k,(sv (f i)).ownBlock=some k→(sv (f j)).ownBlock≠some k
section
variable {α β:Type} {th:TypeId} {hs:Nat} {hc:α→List Value} {tr:TypeId} {rs:Nat} {rc:β→List Value} {sv:α→Value} {ct:α→List β} {w w':World} {base g n:Nat} {f:Nat→α}
theorem HR.below (h:HR th hs hc tr rs rc sv ct w base g n f) (hb:Below w.heap.size w w'):HR th hs hc tr rs rc sv ct w' base g n f:=⟨h.head.below hb,fun i hi=>(h.rows i hi).below hb,h.apart⟩
theorem HR.put (h:HR th hs hc tr rs rc sv ct w base g n f) (hne:th≠tr) {m:Nat} (hm:m<n) {x:α} (R:RowF th hs hc w' g n (fun i=>if i=m then x else f i)) (T:Turn (fun j=>j=g) w w') (hx:OG tr rs rc w base (sv x) (ct x)) (hap:∀ i,i<n→i≠m→∀ k,(sv (f i)).ownBlock=some k→(sv x).ownBlock≠some k):HR th hs hc tr rs rc sv ct w' base g n (fun i=>if i=m then x else f i):=by
 obtain ⟨cg,kg⟩:=h.head.blk
 have ng:∀ (v:Value) (ys:List β),OG tr rs rc w base v ys→∀ k,v.ownBlock=some k→¬ (fun j=>j=g) k:=fun v ys ho k hk e=>by
  have e':k=g:=e
  subst e'
  obtain ⟨c1,k1⟩:=own_kind ho hk
  exact hne (blk_kind kg k1)
 refine ⟨R,fun i hi=>?_,fun i j hi hj hij k hk=>?_⟩
 ·by_cases e:i=m
  ·simp only [e,if_true];exact hx.kept T (ng _ _ hx)
  ·simp only [e,if_false];exact (h.rows i hi).kept T (ng _ _ (h.rows i hi))
 ·by_cases e1:i=m
  ·have e2:¬ j=m:=fun e=>hij (e1.trans e.symm)
   simp only [e1,e2,if_true,if_false] at hk ⊢
   exact fun e=>hap j hj e2 k e hk
  ·by_cases e2:j=m
   ·simp only [e1,e2,if_true,if_false] at hk ⊢
    exact hap i hi e1 k hk
   ·simp only [e1,e2,if_false] at hk ⊢
    exact h.apart i j hi hj hij k hk
end
structure Z4 (zc:Array Value) (t:TypeId) (n:Nat) (ms:List Md) (L:Lay) (W0 X:World) (o:Option Nat) (g:Nat) (m:List Md) (b0:Option Addr) (d0:Nat) (ys:List PB) (b2:Option Addr) (d2:Nat) (b5:Option Addr) (d5:Nat) (us:List TB):Prop where
 z:Z2 zc t n ms W0 X o g m
 y:LayO X W0.heap.size L b0 d0 ys b2 d2 b5 d5 us
section
variable {zc:Array Value} {t:TypeId} {n g:Nat} {ms m:List Md} {L:Lay} {W0 X Y:World} {o:Option Nat} {b0:Option Addr} {d0:Nat} {ys:List PB} {b2:Option Addr} {d2:Nat} {b5:Option Addr} {d5:Nat} {us:List TB}
theorem Z4.below (h:Z4 zc t n ms L W0 X o g m b0 d0 ys b2 d2 b5 d5 us) (hb:Below X.heap.size X Y):Z4 zc t n ms L W0 Y o g m b0 d0 ys b2 d2 b5 d5 us:=⟨h.z.below hb,h.y.below' hb⟩
theorem Z4.drew (h:Z4 zc t n ms L W0 X o g m b0 d0 ys b2 d2 b5 d5 us):Z4 zc t n ms L W0 X.drew o g m b0 d0 ys b2 d2 b5 d5 us:=⟨h.z.drew,h.y.below' (Below.refl _ _).drew⟩
theorem Z4.box (h:Z4 zc t n ms L W0 X none g m b0 d0 ys b2 d2 b5 d5 us):Z4 zc t n ms L W0 (X.alloc (.cells zc t)) (some X.heap.size) g m b0 d0 ys b2 d2 b5 d5 us:=⟨h.z.box,h.y.below' ((Below.refl _ _).alloc (Nat.le_refl _) _)⟩
end
end Go.Proofs.YtngdgogjlpjjpadGreat
