import Derived.Test.YtngdgogjlpjjpadGreatP26
import Derived.Test.YtngdgogjlpjjpadGreatP45
import Derived.Test.YtngdgogjlpjjpadGreatP46
import Derived.Test.YtngdgogjlpjjpadGreatP48
import Derived.Test.YtngdgogjlpjjpadGreatP50
namespace Go.Proofs.YtngdgogjlpjjpadGreat
open Go.RowKit Classical
set_option linter.unusedVariables false
set_option linter.unusedSimpArgs false
set_option maxRecDepth 100000
structure Pz (w X:World) (gl gt:Nat) (ma:Option Addr) (mn mc:Nat) (ms:List Md) (L:Lay) (a0:Option Addr) (c0:Nat) (xs:List PB) (a2:Option Addr) (c2:Nat) (a5:Option Addr) (c5:Nat) (ts:List TB) (t1 t2 t3:Int):Prop where
 m:MSD X ma mn mc ms
 l:LyT X L a0 c0 xs a2 c2 a5 c5 ts
 kl:Blk X gl #[.slice a0 xs.length c0,.int .i64 L.stack,.slice a2 L.slots.length c2,.int .i64 L.flash,.int .i64 L.ram,.slice a5 ts.length c5] 32
 kt:Blk X gt #[.int .i64 t1,.int .i64 t2,.int .i64 t3] 72
 b:Below w.heap.size w X
theorem Pz.below {w X X':World} {gl gt:Nat} {ma:Option Addr} {mn mc:Nat} {ms:List Md} {L:Lay} {a0:Option Addr} {c0:Nat} {xs:List PB} {a2:Option Addr} {c2:Nat} {a5:Option Addr} {c5:Nat} {ts:List TB} {t1 t2 t3:Int} (h:Pz w X gl gt ma mn mc ms L a0 c0 xs a2 c2 a5 c5 ts t1 t2 t3) (hb:Below X.heap.size X X'):Pz w X' gl gt ma mn mc ms L a0 c0 xs a2 c2 a5 c5 ts t1 t2 t3:=⟨h.m.below hb,h.l.below hb,h.kl.below hb,h.kt.below hb,h.b.trans (hb.mono h.b.size)⟩
theorem Pz.cells {w X:World} {gl gt:Nat} {ma:Option Addr} {mn mc:Nat} {ms:List Md} {L:Lay} {a0:Option Addr} {c0:Nat} {xs:List PB} {a2:Option Addr} {c2:Nat} {a5:Option Addr} {c5:Nat} {ts:List TB} {t1 t2 t3:Int} (h:Pz w X gl gt ma mn mc ms L a0 c0 xs a2 c2 a5 c5 ts t1 t2 t3):(X.cell? ⟨gl,0,none⟩=some (.slice a0 xs.length c0)∧X.cell? ⟨gl,1,none⟩=some (.int .i64 L.stack)∧X.cell? ⟨gl,2,none⟩=some (.slice a2 L.slots.length c2)∧X.cell? ⟨gl,3,none⟩=some (.int .i64 L.flash)∧X.cell? ⟨gl,4,none⟩=some (.int .i64 L.ram)∧X.cell? ⟨gl,5,none⟩=some (.slice a5 ts.length c5))∧X.cell? ⟨gt,0,none⟩=some (.int .i64 t1)∧X.cell? ⟨gt,1,none⟩=some (.int .i64 t2)∧X.cell? ⟨gt,2,none⟩=some (.int .i64 t3):=⟨h.kl.ly6,h.kt.cell 0,h.kt.cell 1,h.kt.cell 2⟩
theorem plan_alw {w:World} {ps:List PMod} {L:Lay} {a0:Option Addr} {c0:Nat} {xs:List PB} {a2:Option Addr} {c2:Nat} {a5:Option Addr} {c5:Nat} {ts:List TB} {m b s:Int} (hL:LyT w L a0 c0 xs a2 c2 a5 c5 ts) (h1:Lok ps L) (h2:0≤pcq ps m b) (h3:sOk L b s) (h4:(plR ps L m b s).length≤8) (x:Int) (hx:wfi x):
 alw (plR ps L m b s) (plR ps L m b s).length x 1 2=decide (wrt L (xs.getD m.toNat zPB) x)∧alw (plR ps L m b s) (plR ps L m b s).length x 1 3=decide (rns (orgn L (xs.getD m.toNat zPB) b s) (pcq ps m b) x):=by
 have Q:=pkn_of (s:=s) hL h1 h2
 obtain ⟨o1,o2,o3,o4⟩:=lok_org h1 h2 h3
 obtain ⟨d1,d2,d3,d4⟩:=Q.d
 have e4:=lok_end h1
 have t1:=rnd_range (x:=4 * pcq ps m b) (by omega)
 obtain ⟨s1,s2⟩:=plan_says h1 h2 h3 x
 have ew:wrap64 ((plc ps m.toNat).data+(plc ps m.toNat).size)=(plc ps m.toNat).data+(plc ps m.toNat).size:=by unfold wrap64;omega
 have er:wrap64 (orgq L (plc ps m.toNat) b s+rnd (4 * pcq ps m b))=orgq L (plc ps m.toNat) b s+rnd (4 * pcq ps m b):=by unfold wrap64;omega
 constructor
 ·rw [alw_one rfl h4 (plR_ok _ _ _ _ _) hx,s1]
  refine decide_eq_decide.2 ?_
  unfold wrt
  rw [Q.p,ew]
 ·rw [alw_one rfl h4 (plR_ok _ _ _ _ _) hx,s2,orgn_q,Q.p]
  refine decide_eq_decide.2 ?_
  unfold rns
  rw [er]
theorem plan_wfi {w:World} {ps:List PMod} {L:Lay} {a0:Option Addr} {c0:Nat} {xs:List PB} {a2:Option Addr} {c2:Nat} {a5:Option Addr} {c5:Nat} {ts:List TB} {m b s:Int} (hL:LyT w L a0 c0 xs a2 c2 a5 c5 ts) (h1:Lok ps L) (h2:0≤pcq ps m b) (h3:sOk L b s):wfi L.stack∧wfi (endOf L)∧wfi (orgn L (xs.getD m.toNat zPB) b s)∧wfi (xs.getD m.toNat zPB).1.data∧wfi (xs.getD m.toNat zPB).1.text:=by
 have Q:=pkn_of (s:=s) hL h1 h2
 obtain ⟨o1,o2,o3,o4⟩:=lok_org h1 h2 h3
 obtain ⟨d1,d2,d3,d4⟩:=Q.d
 have e4:=lok_end h1
 have K:=lok_kn h1
 have m0:=Q.m0
 have m2:=Q.m2
 have r1:=Fl_range K.v m.toNat (by omega)
 have n4:=K.n.2
 have et:(plc ps m.toNat).text=Fl ps m.toNat:=rfl
 rw [orgn_q,Q.p,et]
 have st:=Q.t
 unfold wfi
 omega
set_option maxHeartbeats 16000000 in
theorem fnPlanned_walk (a:Option Addr) (n c:Nat) (zs:List Int) (w:World) (h:BS w a n c zs):
 Calls Tryz.prog 5 #[.slice a n c] w fun e w'=>e=.returned (.bool true)∧Below w.heap.size w w':=by
 by_cases hbig:1048576<n
 ·have hbig':(1048576:Int)<(n:Int):=by omega
  go_enter Tryz.func5,Tryz.ntmps5
  go_wp2
  go_ret
  exact ⟨rfl,Below.refl _ _⟩
 have hsm:¬ (1048576:Int)<(n:Int):=by omega
 have HD:=hide (DrawPlan_any zs h.2.2.1 w a n c h)
 clear h
 go_enter Tryz.func5,Tryz.ntmps5
 go_wp2_with fail
 refine HD.out.mono ?_
 rintro e w1 ⟨ma,mn,mc,ms,L,a0,c0,xs,a2,c2,a5,c5,ts,t1,t2,t3,s,rfl,M1,L1,b1⟩
 obtain ⟨w2,hw2⟩:∃ w2,w2=(w1.alloc (.cells #[.slice a0 xs.length c0,.int .i64 L.stack,.slice a2 L.slots.length c2,.int .i64 L.flash,.int .i64 L.ram,.slice a5 ts.length c5] 32)).alloc (.cells #[.int .i64 t1,.int .i64 t2,.int .i64 t3] 72):=⟨_,rfl⟩
 have b2:Below w1.heap.size w1 w2:=by rw [hw2];exact ((Below.refl _ _).alloc (Nat.le_refl _) _).alloc (by simp) _
 have Z2:Pz w w2 w1.heap.size (w1.heap.size+1) ma mn mc ms L a0 c0 xs a2 c2 a5 c5 ts t1 t2 t3:=⟨M1.below b2,L1.below b2,by rw [hw2];exact (Blk.new w1 _ _).alloc _,by rw [hw2];have:=Blk.new (w1.alloc (.cells #[.slice a0 xs.length c0,.int .i64 L.stack,.slice a2 L.slots.length c2,.int .i64 L.flash,.int .i64 L.ram,.slice a5 ts.length c5] 32)) #[.int .i64 t1,.int .i64 t2,.int .i64 t3] 72;simpa using this,b1.trans (b2.mono b1.size)⟩
 have C1:=hide (sPlan_any ma mn mc ms L a0 c0 xs a2 c2 a5 c5 ts t1 t2 t3 s w2 Z2.m Z2.l)
 obtain ⟨⟨p0,p1,p2,p3,p4,p5⟩,s0,s1,s2⟩:=Z2.cells
 have HZ2:=hide Z2
 have HW2:=hide hw2
 have hn2:w1.heap.size≠w1.heap.size+1:=by omega
 clear hw2 b2 M1 L1 b1 HD Z2
 go_wp2_with (rw [← HW2.out])
 refine C1.out.mono ?_
 rintro e w3 ⟨A,k,cc,rfl,o3,b3⟩
 have Z3:=HZ2.out.below b3
 have C2:=hide (iPlan_any ma mn mc ms L a0 c0 xs a2 c2 a5 c5 ts t1 t2 t3 s w3 Z3.m Z3.l)
 clear p0 p1 p2 p3 p4 p5 s0 s1 s2
 obtain ⟨⟨p0,p1,p2,p3,p4,p5⟩,s0,s1,s2⟩:=Z3.cells
 have HZ3:=hide Z3
 clear b3 o3 C1 HZ2 HW2 Z3 hn2
 go_wp2_with fail
 refine C2.out.mono ?_
 rintro e w4 ⟨A',k',cc',rfl,o4,b4⟩
 have Z4:=HZ3.out.below b4
 have HRS:=hide (or_rs o4)
 have HZ4:=hide Z4
 clear p0 p1 p2 p3 p4 p5 s0 s1 s2
 obtain ⟨⟨p0,p1,p2,p3,p4,p5⟩,s0,s1,s2⟩:=Z4.cells
 obtain ⟨fb,hfb⟩:∃ fb:Bool,fb=true ↔ FitP (pmS ms) L:=by
  by_cases h:FitP (pmS ms) L
  ·exact ⟨true,by simp [h]⟩
  ·exact ⟨false,by simp [h]⟩
 have HF1:=hide (fun (X:World) (hX:Below w4.heap.size w4 X)=>(iFits_any ma mn mc ms L a0 c0 xs a2 c2 a5 c5 ts X (Z4.m.below hX) (Z4.l.below hX)).mono fun e w' ⟨r,he,hr,hb⟩=>(⟨by rw [he,show r=fb from Bool.eq_iff_iff.2 (hr.trans hfb.symm)],hX.trans (hb.mono hX.size)⟩:e=Ending.returned (.bool fb)∧Below w4.heap.size w4 w'))
 have HF2:=hide (fun (X:World) (hX:Below w4.heap.size w4 X)=>(sFits_any ma mn mc ms L a0 c0 xs a2 c2 a5 c5 ts X (Z4.m.below hX) (Z4.l.below hX)).mono fun e w' ⟨r,he,hr,hb⟩=>(⟨by rw [he,show r=fb from Bool.eq_iff_iff.2 (hr.trans hfb.symm)],hX.trans (hb.mono hX.size)⟩:e=Ending.returned (.bool fb)∧Below w4.heap.size w4 w'))
 clear hfb
 have HPO:=hide (show pnO (pmS ms) L t1 t2 s=true→Lok (pmS ms) L∧0≤pcq (pmS ms) t1 t2∧sOk L t2 s∧(plR (pmS ms) L t1 t2 s).length≤8 from fun h=>by
  unfold pnO at h
  simp only [Bool.and_eq_true,decide_eq_true_eq,lokB_iff] at h
  exact ⟨h.1.1.1,h.1.1.2,h.1.2,h.2⟩)
 have HPV:=hide (show pnV (pmS ms) L t1 t2 s=if pnO (pmS ms) L t1 t2 s=true then plR (pmS ms) L t1 t2 s else [] from rfl)
 generalize pnV (pmS ms) L t1 t2 s=rs at *
 generalize pnO (pmS ms) L t1 t2 s=po at *
 have hk':=HRS.out.1
 clear b4 o4 C2 HZ3 Z4
 go_wp2_with fail
 go_region_held3 (fun w'=>w'.cell? ⟨w1.heap.size,0,none⟩=some (.slice a0 xs.length c0)∧w'.cell? ⟨w1.heap.size,1,none⟩=some (.int .i64 L.stack)∧w'.cell? ⟨w1.heap.size,2,none⟩=some (.slice a2 L.slots.length c2)∧w'.cell? ⟨w1.heap.size,3,none⟩=some (.int .i64 L.flash)∧w'.cell? ⟨w1.heap.size,4,none⟩=some (.int .i64 L.ram)∧w'.cell? ⟨w1.heap.size,5,none⟩=some (.slice a5 ts.length c5)) (go_keep)
  (first
    | (go_at_call 36;first
        | with_reducible refine (HF1.out _ (Below.refl _ _)).mono ?_
        | with_reducible refine (HF1.out _ (Below.refl _ _).drew).mono ?_
       rintro e w5 ⟨rfl,b5⟩
       have HB5:=hide b5
       obtain ⟨⟨q0,q1,q2,q3,q4,q5⟩,_⟩:=(HZ4.out.below b5).cells
       clear b5)
    | (go_at_call 37;first
        | with_reducible refine (HF2.out _ HB5.out).mono ?_
        | with_reducible refine (HF2.out _ HB5.out.drew).mono ?_
       rintro e w6 ⟨rfl,b6⟩
       have HB6:=hide b6
       obtain ⟨⟨u0,u1,u2,u3,u4,u5⟩,_⟩:=(HZ4.out.below b6).cells
       clear b6))
 have HZ6:=hide (HZ4.out.below HB6.out)
 have HR6:=hide (HRS.out.below HB6.out)
 clear p0 p1 p2 p3 p4 p5 s0 s1 s2 q0 q1 q2 q3 q4 q5 u0 u1 u2 u3 u4 u5 HB5 HB6 HF1 HF2 HZ4
 cases po with
 | false=>
   obtain rfl:k'=0:=by
    have:=HPV.out
    rw [if_neg (by simp)] at this
    rw [← hk',this]
    rfl
   clear hk'
   go_wp2
   go_ret
   exact ⟨rfl,HZ6.out.b⟩
 | true=>
   obtain ⟨g1,g2,g3,g4⟩:=HPO.out rfl
   have hrs:rs=plR (pmS ms) L t1 t2 s:=by rw [HPV.out,if_pos rfl]
   have Q:=pkn_of (s:=s) HZ6.out.l g1 g2
   have HSP:=hide (Spots_any ma mn mc ms L a0 c0 xs a2 c2 a5 c5 ts t1 t2 t3 s w6 HZ6.out.m HZ6.out.l g2 Q.w.2 Q.m0 Q.m1 Q.bb g3.fit (plan_wfi HZ6.out.l g1 g2 g3))
   have HAL:=hide (fun x hx=>plan_alw (x:=x) HZ6.out.l g1 g2 g3 g4 hx)
   rw [← hrs,hk'] at HAL
   have HQ:=hide Q
   have HG:=hide (And.intro g2 g3)
   clear g1 g2 g3 g4 hrs Q HPO HPV
   obtain ⟨⟨p0,p1,p2,p3,p4,p5⟩,s0,s1,s2⟩:=HZ6.out.cells
   go_wp2_with fail
   refine HSP.out.mono ?_
   rintro e w8 ⟨g8,zs8,rfl,I8,b8⟩
   have HZ8:=hide (HZ6.out.below b8)
   have HR8:=hide (HR6.out.below b8)
   have HI8:=hide I8
   clear p0 p1 p2 p3 p4 p5 s0 s1 s2
   clear b8 I8 HSP HZ6 HR6 HRS
   have HA:=hide (show ∀ (X:World) (x:Int),Below w8.heap.size w8 X→wfi x→Calls Tryz.prog 39 #[.slice A' k' cc',.int .i64 x,.int .i64 1,.int .i64 2] X (fun e w'=>e=.returned (.bool (decide (wrt L (xs.getD t1.toNat zPB) x)))∧Below w8.heap.size w8 w') from fun X x hX hx=>(iAllowed_any A' k' cc' rs x 1 2 X (HR8.out.below hX) hx).mono fun e w' he=>⟨by rw [he.1,(HAL.out x hx).1],hX.trans (he.2.mono hX.size)⟩)
   have HX:=hide (show ∀ (X:World) (x:Int),Below w8.heap.size w8 X→wfi x→Calls Tryz.prog 39 #[.slice A' k' cc',.int .i64 x,.int .i64 1,.int .i64 3] X (fun e w'=>e=.returned (.bool (decide (rns (orgn L (xs.getD t1.toNat zPB) t2 s) (pcq (pmS ms) t1 t2) x)))∧Below w8.heap.size w8 w') from fun X x hX hx=>(iAllowed_any A' k' cc' rs x 1 3 X (HR8.out.below hX) hx).mono fun e w' he=>⟨by rw [he.1,(HAL.out x hx).2],hX.trans (he.2.mono hX.size)⟩)
   have HWR:=hide (show ∀ (X:World) (x:Int),Below w8.heap.size w8 X→Calls Tryz.prog 40 #[.agg #[.slice a0 xs.length c0,.int .i64 L.stack,.slice a2 L.slots.length c2,.int .i64 L.flash,.int .i64 L.ram,.slice a5 ts.length c5],.agg #[.int .i64 t1,.int .i64 t2,.int .i64 t3],.int .i64 x] X (fun e w'=>e=.returned (.bool (decide (wrt L (xs.getD t1.toNat zPB) x)))∧Below w8.heap.size w8 w') from fun X x hX=>(Writable_any L a0 c0 xs a2 c2 a5 c5 ts t1 t2 t3 x X (HZ8.out.l.below hX) HQ.out.m0 HQ.out.m1).mono fun e w' he=>⟨he.1,hX.trans (he.2.mono hX.size)⟩)
   have HRN:=hide (show ∀ (X:World) (x:Int),Below w8.heap.size w8 X→Calls Tryz.prog 41 #[.slice ma mn mc,.agg #[.slice a0 xs.length c0,.int .i64 L.stack,.slice a2 L.slots.length c2,.int .i64 L.flash,.int .i64 L.ram,.slice a5 ts.length c5],.agg #[.int .i64 t1,.int .i64 t2,.int .i64 t3],.int .i64 s,.int .i64 x] X (fun e w'=>e=.returned (.bool (decide (rns (orgn L (xs.getD t1.toNat zPB) t2 s) (pcq (pmS ms) t1 t2) x)))∧Below w8.heap.size w8 w') from fun X x hX=>(Runs_any ma mn mc ms L a0 c0 xs a2 c2 a5 c5 ts t1 t2 t3 s x X (HZ8.out.m.below hX) (HZ8.out.l.below hX) HG.out.1 HQ.out.w.2 HQ.out.m0 HQ.out.m1 HQ.out.bb HG.out.2.fit).mono fun e w' he=>⟨he.1,hX.trans (he.2.mono hX.size)⟩)
   clear HAL HQ HG HR8
   go_wp2
   go_loopw [12] (fun i wr=>∃ j:Nat,j≤11∧i=.int .i64 j∧Below w8.heap.size w8 wr) (fun i _=>11 - (intOf i).toNat)
   case atStart=>exact ⟨0,Nat.zero_le _,rfl,Below.refl _ _⟩
   case round=>
    obtain ⟨j,hj,rfl,hb⟩:=hrel
    generalize wr=wo at *
    by_cases hlt:j<11
    ·have hlt':(j:Int)<11:=by omega
     have HBO:=hide hb
     clear hb
     go_wp2
     go_loopw [13] (fun d wr=>∃ q:Int,(-1≤q∧q≤2)∧d=.int .i64 q∧Below w8.heap.size w8 wr) (fun d _=>(2 - intOf d).toNat)
     case atStart=>exact ⟨-1,by omega,rfl,HBO.out⟩
     case round=>
      obtain ⟨q,hq,rfl,hb⟩:=hrel
      generalize wr=wi at *
      by_cases hqt:q≤1
      ·obtain ⟨b0,o0,e0,hc⟩:=HI8.out.2.2.2.1 (by omega)
       simp only [Option.some.injEq,Addr.mk.injEq] at e0
       obtain ⟨rfl,rfl,-⟩:=e0
       have hz:=cell_below hb (hc j hlt)
       rw [Nat.zero_add] at hz
       generalize zs8.getD j 0=z at *
       have HB:=hide hb
       clear hb hc
       go_wp2_with fail
       refine (HA.out _ _ HB.out (wrap_wfi _)).mono ?_
       rintro e wa ⟨rfl,ba⟩
       have CX:=hide (HX.out wa (wrap64 (z+q)) ba (wrap_wfi _))
       clear HB hz ba
       generalize wrap64 (z+q)=x at *
       go_wp2_with fail
       refine CX.out.mono ?_
       rintro e wb ⟨rfl,bb⟩
       obtain ⟨⟨p0,p1,p2,p3,p4,p5⟩,s0,s1,s2⟩:=(HZ8.out.below bb).cells
       have CW:=hide (HWR.out wb x bb)
       clear bb CX
       go_wp2_with fail
       refine CW.out.mono ?_
       rintro e wc ⟨rfl,bc⟩
       clear p0 p1 p2 p3 p4 p5 s0 s1 s2 CW
       obtain ⟨⟨p0,p1,p2,p3,p4,p5⟩,s0,s1,s2⟩:=(HZ8.out.below bc).cells
       have CR:=hide (HRN.out wc x bc)
       clear bc
       go_wp2_with fail
       refine CR.out.mono ?_
       rintro e wd ⟨rfl,bd⟩
       have HBd:=hide bd
       clear bd CR p0 p1 p2 p3 p4 p5 s0 s1 s2
       go_wp2
       go_roundw
       case rel=>exact ⟨q+1,by omega,by go_num,HBd.out⟩
       case measure=>simp [intOf];omega
      ·have HB:=hide hb
       clear hb
       go_wp2
       go_roundw
       case rel=>exact ⟨j+1,by omega,by go_num,HB.out⟩
       case measure=>simp [intOf];omega
    ·have hlt':¬ (j:Int)<11:=by omega
     have HB:=hide hb
     clear hb
     go_wp2
     go_ret
     exact ⟨rfl,HZ8.out.b.trans (HB.out.mono HZ8.out.b.size)⟩
end Go.Proofs.YtngdgogjlpjjpadGreat
