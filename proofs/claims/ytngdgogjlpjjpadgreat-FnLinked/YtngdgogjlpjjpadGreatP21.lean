import Derived.Laws.CopyOwn
import Derived.Test.YtngdgogjlpjjpadGreatP06
import Derived.Test.YtngdgogjlpjjpadGreatP08
import Derived.Test.YtngdgogjlpjjpadGreatP10
import Derived.Test.YtngdgogjlpjjpadGreatP20
namespace Go.Proofs.YtngdgogjlpjjpadGreat
open Go.RowKit Classical
set_option linter.unusedVariables false
set_option linter.unusedSimpArgs false
set_option maxRecDepth 100000
set_option maxHeartbeats 4000000 in
theorem layoutOk_any (a:Option Addr) (n cap:Nat) (ms:List Md) (L:Lay) (a0:Option Addr) (c0:Nat) (xs:List PB) (a2:Option Addr) (c2:Nat) (a5:Option Addr) (c5:Nat) (ts:List TB) (w:World) (h:MSD w a n cap ms) (hL:LyT w L a0 c0 xs a2 c2 a5 c5 ts):
 Calls Tryz.prog 66 #[.slice a n cap,.agg #[.slice a0 xs.length c0,.int .i64 L.stack,.slice a2 L.slots.length c2,.int .i64 L.flash,.int .i64 L.ram,.slice a5 ts.length c5]] w fun e w'=>e=.returned (.bool (decide (Lok (pmS ms) L)))∧Below w.heap.size w w':=by
 obtain ⟨r,hr⟩:∃ r,r=decide (Lok (pmS ms) L):=⟨_,rfl⟩
 rw [← hr]
 replace hr:r=true ↔ Lok (pmS ms) L:=by rw [hr];simp
 unfold Lok at hr
 have HLB:=hide (layB_lk (pmS ms) (L.slots.length:Int) (cfW L) (cfK L) 0)
 have HLV:=hide (lkL_v (pmS ms) (L.slots.length:Int) (cfW L) (cfK L) 0)
 have HIM:=hide (fun (W:World) (hb:Below w.heap.size w W)=>by
  have:=iLink_any a n cap ms (L.slots.length:Int) (cfW L) (cfK L) 0 W (h.below hb)
  unfold LkM layV at this
  exact this)
 generalize lkL (pmS ms) (L.slots.length:Int) (cfW L) (cfK L) 0=LY at *
 generalize lkc (pmS ms) (L.slots.length:Int) (cfW L) (cfK L) 0=C at *
 have HR:=hide hr
 have HCF:=hide (fun (W:World) (hb:Below w.heap.size w W)=>configOf_any L a0 c0 xs a2 c2 a5 c5 ts W (hL.below hb))
 have B0:Below w.heap.size w (w.alloc (.cells #[.slice a0 xs.length c0,.int .i64 L.stack,.slice a2 L.slots.length c2,.int .i64 L.flash,.int .i64 L.ram,.slice a5 ts.length c5] 32)):=(Below.refl _ _).alloc (Nat.le_refl _) _
 have k0:=Blk.new w #[.slice a0 xs.length c0,.int .i64 L.stack,.slice a2 L.slots.length c2,.int .i64 L.flash,.int .i64 L.ram,.slice a5 ts.length c5] 32
 have HL:=hide hL
 clear h hL hr
 go_enter Tryz.func66,Tryz.ntmps66
 go_wp2_with fail
 refine (HCF.out _ B0).mono ?_
 rintro e w1 ⟨rfl,hb1⟩
 have B1:=B0.trans (hb1.mono B0.size)
 have k1:=k0.below hb1
 clear hb1 B0 k0
 go_wp2_with fail
 refine (HIM.out _ B1).mono ?_
 rintro e w2 ⟨hb2,b0,d0,ys,b2,d2,b5,d5,us,rfl,O2⟩
 have hA:Below w2.heap.size w2 (w2.alloc (.cells #[.slice b0 ys.length d0,.int .i64 LY.stack,.slice b2 LY.slots.length d2,.int .i64 LY.flash,.int .i64 LY.ram,.slice b5 us.length d5] 32)):=(Below.refl _ _).alloc (Nat.le_refl _) _
 have kt:=Blk.new w2 #[.slice b0 ys.length d0,.int .i64 LY.stack,.slice b2 LY.slots.length d2,.int .i64 LY.flash,.int .i64 LY.ram,.slice b5 us.length d5] 32
 have B2:=B1.trans (hb2.mono B1.size)
 have B3:=B2.trans (hA.mono B2.size)
 have k3:=(k1.below hb2).below hA
 have O3:=O2.below' hA
 have HSM:=hide (sameLayout_any LY b0 d0 ys b2 d2 b5 d5 us L a0 c0 xs a2 c2 a5 c5 ts _ (O3.lyt HLB.out.r HLV.out) (HL.out.below B3))
 have HB3:=hide B3
 obtain ⟨p0,p1,p2,p3,p4,p5⟩:=k3.ly6
 obtain ⟨q0,q1,q2,q3,q4,q5⟩:=kt.ly6
 clear hb2 O2 O3 hA B1 B2 B3 k1 k3 kt
 by_cases hC:C=0
 ·have g:(C == 0)=true:=by simpa using hC
  have HV:=hide (show decide (LY=L)=r by rw [Bool.eq_iff_iff,HR.out];simp [hC])
  rw [HV.out] at HSM
  clear hC HR
  go_wp2_with fail
  refine HSM.out.mono ?_
  rintro e w4 ⟨rfl,hb4⟩
  have HB4:=hide (HB3.out.trans (hb4.mono HB3.out.size))
  clear hb4
  cases r
  all_goals
   go_wp2
   go_ret
   exact ⟨rfl,HB4.out⟩
 ·have g:(C == 0)=false:=by simpa using hC
  have HV:=hide (show r=false by cases r;rfl;exact absurd (HR.out.1 rfl).1 hC)
  clear hC HR
  go_wp2
  go_ret
  exact ⟨ret_bool HV.out.symm,HB3.out⟩
theorem cut2 {S F:Nat→World→Prop} {G:Prop} (main:(∀ g W,F g W→S g W)→G) (pf:∀ g W,F g W→S g W):G:=main pf
def wdS (L:Lay):Int:=if 4<L.slots.length then 1 else cfW L
theorem lok_iff (ps:List PMod) (L:Lay):Lok ps L ↔ (lkc ps (L.slots.length:Int) (wdS L) (cfK L) 0=0∧lkL ps (L.slots.length:Int) (wdS L) (cfK L) 0=L):=by
 unfold wdS
 by_cases h:4<L.slots.length
 ·rw [if_pos h]
  have key:∀ wd:Int,lkc ps (L.slots.length:Int) wd (cfK L) 0≠0:=fun wd e=>by
   have hc:=(lkc_facts e).1
   unfold cfo at hc
   simp at hc
   omega
  constructor
  ·intro e;exact absurd e.1 (key _)
  ·intro e;exact absurd e.1 (key _)
 ·rw [if_neg h];rfl
set_option maxHeartbeats 8000000 in
theorem l5Real_any (a:Option Addr) (n0 cap:Nat) (ms:List Md) (L:Lay) (a0:Option Addr) (c0:Nat) (xs:List PB) (a2:Option Addr) (c2:Nat) (a5:Option Addr) (c5:Nat) (ts:List TB) (w:World) (h:MSD w a n0 cap ms) (hL:LyT w L a0 c0 xs a2 c2 a5 c5 ts):
 Calls Tryz.prog 69 #[.slice a n0 cap,.agg #[.slice a0 xs.length c0,.int .i64 L.stack,.slice a2 L.slots.length c2,.int .i64 L.flash,.int .i64 L.ram,.slice a5 ts.length c5]] w fun e w'=>e=.returned (.bool (decide (Lok (pmS ms) L)))∧Below w.heap.size w w':=by
 have hmx:=hL.s.2.1
 unfold maxLen at hmx
 obtain ⟨r,hr⟩:∃ r,r=decide (Lok (pmS ms) L):=⟨_,rfl⟩
 rw [← hr]
 replace hr:r=true ↔ Lok (pmS ms) L:=by rw [hr];simp
 rw [lok_iff] at hr
 have HLB:=hide (layB_lk (pmS ms) (L.slots.length:Int) (wdS L) (cfK L) 0)
 have HLV:=hide (lkL_v (pmS ms) (L.slots.length:Int) (wdS L) (cfK L) 0)
 have HSP:=hide (fun (W:World) (hb:Below w.heap.size w W)=>by
  have:=sLink_any a n0 cap ms (L.slots.length:Int) (wdS L) (cfK L) 0 W (h.below hb)
  unfold LkM layV at this
  exact this)
 generalize lkL (pmS ms) (L.slots.length:Int) (wdS L) (cfK L) 0=LY at *
 generalize lkc (pmS ms) (L.slots.length:Int) (wdS L) (cfK L) 0=C at *
 have HR:=hide hr
 have HEN:=hide (fun (W:World) (hb:Below w.heap.size w W)=>l5Ends_any L a0 c0 xs a2 c2 a5 c5 ts W (hL.below hb))
 have HSL:=hide (fun (LY:Lay) (b0:Option Addr) (d0:Nat) (ys:List PB) (b2:Option Addr) (d2:Nat) (b5:Option Addr) (d5:Nat) (us:List TB) (W:World) (o:LyT W LY b0 d0 ys b2 d2 b5 d5 us) (hb:Below w.heap.size w W)=>SameLayout_any LY b0 d0 ys b2 d2 b5 d5 us L a0 c0 xs a2 c2 a5 c5 ts W o (hL.below hb))
 have HWK:=hide (show IntKind.i64.wrap (endOf L - L.stack)=cfK L from IntWalk.i64_left _)
 have HWD:=hide (show wdS L=if 4<L.slots.length then 1 else cfW L from rfl)
 have HCW:=hide (show cfW L=if L.slots=[] then 1 else wrap64 ((cfQ L).tdiv 4) from rfl)
 have HCQ:=hide (show cfQ L=wrap64 ((wrap64 (wrap64 (65536+L.ram) - L.slots.getD 0 0)).tdiv (L.slots.length:Int)) from rfl)
 have HS:=hide hL.s
 have HNE:=hide (show L.slots=[] ↔ L.slots.length=0 from List.length_eq_zero_iff.symm)
 have hC0:C=C:=rfl
 clear h hL hr hC0
 generalize cfK L=K at *
 generalize wdS L=wd at *
 generalize endOf L=E at *
 generalize L.slots.length=n at *
 have B0:Below w.heap.size w (w.alloc (.cells #[.slice a0 xs.length c0,.int .i64 L.stack,.slice a2 n c2,.int .i64 L.flash,.int .i64 L.ram,.slice a5 ts.length c5] 32)):=(Below.refl _ _).alloc (Nat.le_refl _) _
 have k0:=Blk.new w #[.slice a0 xs.length c0,.int .i64 L.stack,.slice a2 n c2,.int .i64 L.flash,.int .i64 L.ram,.slice a5 ts.length c5] 32
 go_enter Tryz.func69,Tryz.ntmps69
 go_wp2_with fail
 generalize w.alloc (.cells #[.slice a0 xs.length c0,.int .i64 L.stack,.slice a2 n c2,.int .i64 L.flash,.int .i64 L.ram,.slice a5 ts.length c5] 32)=W0 at *
 have hw0:w.heap.size<W0.heap.size:=k0.lt
 obtain ⟨x0,x1,x2,x3,x4,x5⟩:=k0.ly6
 have HK0:=hide (And.intro B0 k0)
 have HEZ:=hide (fun (zc:Array Value) (t:TypeId) (X:World) (o:Option Nat) (hz:Zb zc t W0 X o)=>(HEN.out X (HK0.out.1.trans (hz.1.mono HK0.out.1.size))).mono (fun e w' he=>show e=.returned (.int .i64 E)∧Zb zc t W0 w' o from ⟨he.1,hz.below he.2⟩))
 have HCL:=hide (fun (W:World) (hb:Below W0.heap.size W0 W)=>(HK0.out.2.below hb).ly6)
 have HY0:=hide (zb_new #[.int .i64 0,.int .i64 0,.int .i64 0,.int .i64 0] 25 W0)
 have HFB:=hide (fun (X:World) (hz:Zb #[.int .i64 0,.int .i64 0,.int .i64 0,.int .i64 0] 25 W0 X none)=>show Below W0.heap.size W0 (X.alloc (.cells #[.int .i64 n,.int .i64 1,.int .i64 K,.int .i64 0] 25))∧Blk (X.alloc (.cells #[.int .i64 n,.int .i64 1,.int .i64 K,.int .i64 0] 25)) X.heap.size #[.int .i64 n,.int .i64 1,.int .i64 K,.int .i64 0] 25∧W0.heap.size≤X.heap.size from ⟨hz.1.alloc hz.1.size _,Blk.new _ _ _,hz.1.size⟩)
 have HFA:=hide (fun (X:World) (g:Nat) (hz:Zb #[.int .i64 0,.int .i64 0,.int .i64 0,.int .i64 0] 25 W0 X (some g))=>show Below W0.heap.size W0 ((((X.setCell ⟨g,0,none⟩ (.int .i64 n)).setCell ⟨g,1,none⟩ (.int .i64 1)).setCell ⟨g,2,none⟩ (.int .i64 K)).setCell ⟨g,3,none⟩ (.int .i64 0))∧Blk ((((X.setCell ⟨g,0,none⟩ (.int .i64 n)).setCell ⟨g,1,none⟩ (.int .i64 1)).setCell ⟨g,2,none⟩ (.int .i64 K)).setCell ⟨g,3,none⟩ (.int .i64 0)) g #[.int .i64 n,.int .i64 1,.int .i64 K,.int .i64 0] 25∧W0.heap.size≤g from by
  obtain ⟨hg,hk⟩:=hz.2 g rfl
  have T:Turn (fun j=>j=g) X ((((X.setCell ⟨g,0,none⟩ (.int .i64 n)).setCell ⟨g,1,none⟩ (.int .i64 1)).setCell ⟨g,2,none⟩ (.int .i64 K)).setCell ⟨g,3,none⟩ (.int .i64 0)):=(((turn_set _ _ _ _).trans (turn_set _ _ _ _)).trans (turn_set _ _ _ _)).trans (turn_set _ _ _ _)
  have kz:=(((hk.set 0 (.int .i64 n)).set 1 (.int .i64 1)).set 2 (.int .i64 K)).set 3 (.int .i64 0)
  simp only [List.setIfInBounds_toArray,List.set_cons_zero,List.set_cons_succ] at kz
  exact ⟨below_turn hz.1 T (fun k e=>by omega) hz.1.size,kz,hg⟩)
 clear B0 k0
 apply cut2 (F:=fun gc W=>Below W0.heap.size W0 W∧Blk W gc #[.int .i64 n,.int .i64 1,.int .i64 K,.int .i64 0] 25∧W0.heap.size≤gc)
 ·intro REST0
  have REST:=hide REST0
  clear REST0
  go_region_held3 (fun w'=>w'.cell? ⟨w.heap.size,0,none⟩=some (.slice a0 xs.length c0)∧w'.cell? ⟨w.heap.size,1,none⟩=some (.int .i64 L.stack)∧w'.cell? ⟨w.heap.size,2,none⟩=some (.slice a2 n c2)∧w'.cell? ⟨w.heap.size,3,none⟩=some (.int .i64 L.flash)∧w'.cell? ⟨w.heap.size,4,none⟩=some (.int .i64 L.ram)∧w'.cell? ⟨w.heap.size,5,none⟩=some (.slice a5 ts.length c5)) (go_keep)
   (first
     | (go_at_call 117;first
         | with_reducible refine (HEZ.out _ _ _ none HY0.out).mono ?_
         | with_reducible refine (HEZ.out _ _ _ none HY0.out.drew).mono ?_
         | with_reducible refine (HEZ.out _ _ _ _ HY0.out.box).mono ?_
         | with_reducible refine (HEZ.out _ _ _ _ HY0.out.drew.box).mono ?_
         | with_reducible refine (HEZ.out _ _ _ _ HY0.out.box.drew).mono ?_
        rintro e w1 ⟨rfl,hY1⟩
        have HY1:=hide hY1
        clear hY1
        obtain ⟨d0,d1,d2,d3,d4,d5⟩:=HCL.out w1 HY1.out.1
        have hwr:=HWK.out
        first
         | (have kz:=(HY1.out.2 _ rfl).2
            have z0:=kz.cell 0
            have z1:=kz.cell 1
            have z2:=kz.cell 2
            have z3:=kz.cell 3
            simp only [List.getElem?_toArray,List.getElem?_cons_zero,List.getElem?_cons_succ] at z0 z1 z2 z3
            have zf:=kz.frozen
            have hne:=Nat.ne_of_lt (Nat.lt_of_lt_of_le hw0 (HY1.out.2 _ rfl).1)
            have hne':=hne.symm
            clear kz)
         | skip))
  all_goals try simp only [HWK.out]
  ·have HF:=hide (HFB.out _ HY1.out)
   generalize w1.alloc (.cells #[.int .i64 n,.int .i64 1,.int .i64 K,.int .i64 0] 25)=W' at HF ⊢
   generalize w1.heap.size=gc at HF ⊢
   exact REST.out gc W' HF.out
  all_goals exact REST.out _ _ (HFA.out _ _ HY1.out)
 ·rintro gc W ⟨hb,kc,hg⟩
  show Exit.then _ _ _ _ _
  have B1:=HK0.out.1.trans (hb.mono HK0.out.1.size)
  have k1:=HK0.out.2.below hb
  obtain ⟨d0,d1,d2,d3,d4,d5⟩:=k1.ly6
  have hne:=Nat.ne_of_lt (Nat.lt_of_lt_of_le hw0 hg)
  clear hb x0 x1 x2 x3 x4 x5 HK0 HEZ HCL HY0 HFA HFB HEN HWK
  by_cases hB:0<n∧n≤4
  ·obtain ⟨hn0,hn4⟩:=hB
   have hn0':(0:Int)<(n:Int):=by omega
   have hn4':(n:Int)≤4:=by omega
   have he:((n:Int) == 0)=false:=by simp;omega
   have hnz:¬ ((n:Int)=0):=by omega
   have hnn:¬ (n=0):=by omega
   obtain ⟨b,off,rfl,hc⟩:=HS.out.2.2.2.1 (by omega)
   have q0:=hc 0 hn0
   rw [Nat.add_zero] at q0
   have nb:b≠gc:=by
    have h2:=World.block_lt_of_cell? _ _ q0
    dsimp only at h2
    omega
   have q:=cell_below B1 q0
   clear q0
   have HVW:=hide (show wrap64 ((wrap64 ((wrap64 (wrap64 (65536+L.ram) - L.slots.getD 0 0)).tdiv (n:Int))).tdiv 4)=wd by rw [HWD.out,if_neg (by omega),HCW.out,if_neg (by rw [HNE.out];omega),HCQ.out])
   generalize L.slots.getD 0 0=z at *
   have y0:W.cell? ⟨gc,1,none⟩=some (.int .i64 1):=kc.cell 1
   have yf:=kc.frozen
   have nb':=nb.symm
   have hne':=hne.symm
   clear hc
   have hgw:=hide (show w.heap.size≤gc by omega)
   have HX:=hide (And.intro B1 (And.intro k1 kc))
   clear B1 k1 kc hw0 hg
   go_wp2
   go_region_held3 (fun w'=>w'.cell? ⟨w.heap.size,4,none⟩=some (.int .i64 L.ram)∧w'.cell? ⟨w.heap.size,2,none⟩=some (.slice (some ⟨b,off,none⟩) n c2)∧w'.cell? ⟨b,off,none⟩=some (.int .i64 z)) (go_keep) (fail)
   simp only [IntWalk.i64_left]
   rw [HVW.out]
   obtain ⟨B1,k1,kc⟩:=HX.out
   have T:Turn (fun j=>j=gc) W (W.setCell ⟨gc,1,none⟩ (.int .i64 wd)):=turn_set _ _ _ _
   have B5:=(below_turn B1 T (fun k e=>by have:=hgw.out;omega) B1.size).drew
   have k5':=turn_blk T k1 (fun e=>hne e)
   have k5:Blk ((W.setCell ⟨gc,1,none⟩ (.int .i64 wd)).drew) w.heap.size _ _:=k5'
   have kc5:Blk ((W.setCell ⟨gc,1,none⟩ (.int .i64 wd)).drew) gc _ _:=kc.set 1 (.int .i64 wd)
   simp only [List.setIfInBounds_toArray,List.set_cons_zero,List.set_cons_succ] at kc5
   generalize (W.setCell ⟨gc,1,none⟩ (.int .i64 wd)).drew=W5 at *
   clear T B1 k1 kc k5' HX q d0 d1 d2 d3 d4 d5 y0 yf nb nb'
   obtain ⟨d0,d1,d2,d3,d4,d5⟩:=k5.ly6
   have y0:W5.cell? ⟨gc,0,none⟩=some (.int .i64 n):=kc5.cell 0
   have y1:W5.cell? ⟨gc,1,none⟩=some (.int .i64 wd):=kc5.cell 1
   have y2:W5.cell? ⟨gc,2,none⟩=some (.int .i64 K):=kc5.cell 2
   have y3:W5.cell? ⟨gc,3,none⟩=some (.int .i64 0):=kc5.cell 3
   go_wp2_with fail
   refine (HSP.out _ B5).mono ?_
   rintro e w2 ⟨hb2,b0,d0,ys,b2,d2,b5,d5,us,rfl,O2⟩
   have hA:Below w2.heap.size w2 (w2.alloc (.cells #[.slice b0 ys.length d0,.int .i64 LY.stack,.slice b2 LY.slots.length d2,.int .i64 LY.flash,.int .i64 LY.ram,.slice b5 us.length d5] 32)):=(Below.refl _ _).alloc (Nat.le_refl _) _
   have kt:=Blk.new w2 #[.slice b0 ys.length d0,.int .i64 LY.stack,.slice b2 LY.slots.length d2,.int .i64 LY.flash,.int .i64 LY.ram,.slice b5 us.length d5] 32
   have B2:=B5.trans (hb2.mono B5.size)
   have B3:=B2.trans (hA.mono B2.size)
   have k3:=(k5.below hb2).below hA
   have O3:=O2.below' hA
   have HSM:=hide (HSL.out LY b0 d0 ys b2 d2 b5 d5 us _ (O3.lyt HLB.out.r HLV.out) B3)
   have HB3:=hide B3
   obtain ⟨p0,p1,p2,p3,p4,p5⟩:=k3.ly6
   obtain ⟨q0,q1,q2,q3,q4,q5⟩:=kt.ly6
   clear hb2 O2 O3 hA B2 B3 k3 kt y0 y1 y2 y3
   by_cases hC:C=0
   ·have g:(C == 0)=true:=by simpa using hC
    have HV:=hide (show decide (LY=L)=r by rw [Bool.eq_iff_iff,HR.out];simp [hC])
    rw [HV.out] at HSM
    clear hC HR
    go_wp2_with fail
    refine HSM.out.mono ?_
    rintro e w4 ⟨rfl,hb4⟩
    have HB4:=hide (HB3.out.trans (hb4.mono HB3.out.size))
    clear hb4
    cases r
    all_goals
     go_wp2
     go_ret
     exact ⟨rfl,HB4.out⟩
   ·have g:(C == 0)=false:=by simpa using hC
    have HV:=hide (show r=false by cases r;rfl;exact absurd (HR.out.1 rfl).1 hC)
    clear hC HR
    go_wp2
    go_ret
    exact ⟨ret_bool HV.out.symm,HB3.out⟩
  ·have HVW:=hide (show (1:Int)=wd by
    rw [HWD.out]
    by_cases h4:4<n
    ·rw [if_pos h4]
    ·rw [if_neg h4,HCW.out,if_pos (by rw [HNE.out];omega)])
   have g1:0<n→¬ ((n:Int)≤4):=fun h=>by omega
   rw [HVW.out] at kc
   by_cases hn0:0<n
   ·have hn0':(0:Int)<(n:Int):=by omega
    have hn4':¬ ((n:Int)≤4):=by omega
    clear g1
    have y0:W.cell? ⟨gc,0,none⟩=some (.int .i64 n):=kc.cell 0
    have y1:W.cell? ⟨gc,1,none⟩=some (.int .i64 wd):=kc.cell 1
    have y2:W.cell? ⟨gc,2,none⟩=some (.int .i64 K):=kc.cell 2
    have y3:W.cell? ⟨gc,3,none⟩=some (.int .i64 0):=kc.cell 3
    go_wp2_with fail
    refine (HSP.out _ B1).mono ?_
    rintro e w2 ⟨hb2,b0,d0,ys,b2,d2,b5,d5,us,rfl,O2⟩
    have hA:Below w2.heap.size w2 (w2.alloc (.cells #[.slice b0 ys.length d0,.int .i64 LY.stack,.slice b2 LY.slots.length d2,.int .i64 LY.flash,.int .i64 LY.ram,.slice b5 us.length d5] 32)):=(Below.refl _ _).alloc (Nat.le_refl _) _
    have kt:=Blk.new w2 #[.slice b0 ys.length d0,.int .i64 LY.stack,.slice b2 LY.slots.length d2,.int .i64 LY.flash,.int .i64 LY.ram,.slice b5 us.length d5] 32
    have B2:=B1.trans (hb2.mono B1.size)
    have B3:=B2.trans (hA.mono B2.size)
    have k3:=(k1.below hb2).below hA
    have O3:=O2.below' hA
    have HSM:=hide (HSL.out LY b0 d0 ys b2 d2 b5 d5 us _ (O3.lyt HLB.out.r HLV.out) B3)
    have HB3:=hide B3
    obtain ⟨p0,p1,p2,p3,p4,p5⟩:=k3.ly6
    obtain ⟨q0,q1,q2,q3,q4,q5⟩:=kt.ly6
    clear hb2 O2 O3 hA B2 B3 k3 kt y0 y1 y2 y3
    by_cases hC:C=0
    ·have g:(C == 0)=true:=by simpa using hC
     have HV:=hide (show decide (LY=L)=r by rw [Bool.eq_iff_iff,HR.out];simp [hC])
     rw [HV.out] at HSM
     clear hC HR
     go_wp2_with fail
     refine HSM.out.mono ?_
     rintro e w4 ⟨rfl,hb4⟩
     have HB4:=hide (HB3.out.trans (hb4.mono HB3.out.size))
     clear hb4
     cases r
     all_goals
      go_wp2
      go_ret
      exact ⟨rfl,HB4.out⟩
    ·have g:(C == 0)=false:=by simpa using hC
     have HV:=hide (show r=false by cases r;rfl;exact absurd (HR.out.1 rfl).1 hC)
     clear hC HR
     go_wp2
     go_ret
     exact ⟨ret_bool HV.out.symm,HB3.out⟩
   ·have hn0':¬ ((0:Int)<(n:Int)):=by omega
    clear g1
    have y0:W.cell? ⟨gc,0,none⟩=some (.int .i64 n):=kc.cell 0
    have y1:W.cell? ⟨gc,1,none⟩=some (.int .i64 wd):=kc.cell 1
    have y2:W.cell? ⟨gc,2,none⟩=some (.int .i64 K):=kc.cell 2
    have y3:W.cell? ⟨gc,3,none⟩=some (.int .i64 0):=kc.cell 3
    go_wp2_with fail
    refine (HSP.out _ B1).mono ?_
    rintro e w2 ⟨hb2,b0,d0,ys,b2,d2,b5,d5,us,rfl,O2⟩
    have hA:Below w2.heap.size w2 (w2.alloc (.cells #[.slice b0 ys.length d0,.int .i64 LY.stack,.slice b2 LY.slots.length d2,.int .i64 LY.flash,.int .i64 LY.ram,.slice b5 us.length d5] 32)):=(Below.refl _ _).alloc (Nat.le_refl _) _
    have kt:=Blk.new w2 #[.slice b0 ys.length d0,.int .i64 LY.stack,.slice b2 LY.slots.length d2,.int .i64 LY.flash,.int .i64 LY.ram,.slice b5 us.length d5] 32
    have B2:=B1.trans (hb2.mono B1.size)
    have B3:=B2.trans (hA.mono B2.size)
    have k3:=(k1.below hb2).below hA
    have O3:=O2.below' hA
    have HSM:=hide (HSL.out LY b0 d0 ys b2 d2 b5 d5 us _ (O3.lyt HLB.out.r HLV.out) B3)
    have HB3:=hide B3
    obtain ⟨p0,p1,p2,p3,p4,p5⟩:=k3.ly6
    obtain ⟨q0,q1,q2,q3,q4,q5⟩:=kt.ly6
    clear hb2 O2 O3 hA B2 B3 k3 kt y0 y1 y2 y3
    by_cases hC:C=0
    ·have g:(C == 0)=true:=by simpa using hC
     have HV:=hide (show decide (LY=L)=r by rw [Bool.eq_iff_iff,HR.out];simp [hC])
     rw [HV.out] at HSM
     clear hC HR
     go_wp2_with fail
     refine HSM.out.mono ?_
     rintro e w4 ⟨rfl,hb4⟩
     have HB4:=hide (HB3.out.trans (hb4.mono HB3.out.size))
     clear hb4
     cases r
     all_goals
      go_wp2
      go_ret
      exact ⟨rfl,HB4.out⟩
    ·have g:(C == 0)=false:=by simpa using hC
     have HV:=hide (show r=false by cases r;rfl;exact absurd (HR.out.1 rfl).1 hC)
     clear hC HR
     go_wp2
     go_ret
     exact ⟨ret_bool HV.out.symm,HB3.out⟩
def zby (n:Nat):Array Value:=((List.replicate n (0:Int)).map (Value.int .u8)).toArray
theorem make8 (n:Nat) (hn:n≤16384) (W:World):(Instr.makeSlice 22 (.int .i64 (n:Int)) (.int .i64 (n:Int))).run Tryz.prog W=.ok (.slice (some ⟨W.heap.size,0,none⟩) n n) (W.alloc (.cells (zby n) 5)):=by
 rw [run_make_row' 22 5 (.int .u8 0) 1 Tryz.underlying22 info8 rfl .i64 .i64 n (by omega) (by omega) W]
 have:=made8 n
 rw [Nat.mul_one] at this
 unfold zby
 rw [← this]
 rfl
theorem zby_ob {W:World} {g base n:Nat} (h:Blk W g (zby n) 5) (hg:base≤g) (hn:n≤16384):OB W base (.slice (some ⟨g,0,none⟩) n n) (List.replicate n 0):=by
 refine ⟨⟨by simp,.inr ⟨g,n,zby n,by simp,hg,h,by simp,by unfold maxLen;omega,by simp [zby],?_⟩⟩,fun z hz=>by have:=List.eq_of_mem_replicate hz;omega⟩
 unfold zby
 simp only [List.toList_toArray,List.length_replicate,Nat.mul_one]
 exact List.take_of_length_le (by simp)
def pourB (zs:List Int) (P:PMod) (p:Pl):Nat→List Int
 | 0=>pour zs p.text.toNat P.tz P.tz.length
 | j+1=>pour (pourB zs P p j) (p.banks.getD j 0).toNat (P.bl.getD j []) (P.bl.getD j []).length
theorem pourB_len (zs:List Int) (P:PMod) (p:Pl):∀ j,(pourB zs P p j).length=zs.length
 | 0=>pour_len _ _ _ _
 | j+1=>by rw [pourB,pour_len,pourB_len zs P p j]
def flB (ps:List PMod) (L:Lay):Nat→List Int
 | 0=>List.replicate L.flash.toNat 0
 | i+1=>pourB (flB ps L i) (ps.getD i zP) (L.places.getD i zPB.1) (ps.getD i zP).bl.length
def relB (zs:List Int) (f:Nat) (rz:List Int) (d:Int):Nat→List Int
 | 0=>zs
 | j+1=>put (relB zs f rz d j) (f+(rz.getD j 0).toNat) (low (((relB zs f rz d j).drop (f+(rz.getD j 0).toNat)).take 4)+d) 4
theorem relB_len (zs:List Int) (f:Nat) (rz:List Int) (d:Int):∀ j,(relB zs f rz d j).length=zs.length
 | 0=>rfl
 | j+1=>by rw [relB,put_len,relB_len zs f rz d j]
def ovr (zs:List Int) (f:Nat) (ds:List Int):List Int:=zs.take f++(ds++zs.drop (f+ds.length))
theorem ovr_len (zs:List Int) (f:Nat) (ds:List Int) (h:f+ds.length≤zs.length):(ovr zs f ds).length=zs.length:=by simp [ovr];omega
def raB (ps:List PMod) (L:Lay):Nat→List Int
 | 0=>List.replicate L.ram.toNat 0
 | i+1=>relB (ovr (raB ps L i) ((L.places.getD i zPB.1).data - 65536).toNat (ps.getD i zP).dz) ((L.places.getD i zPB.1).data - 65536).toNat (ps.getD i zP).rz (L.places.getD i zPB.1).data (ps.getD i zP).rz.length
theorem flB_len (ps:List PMod) (L:Lay):∀ i,(flB ps L i).length=L.flash.toNat
 | 0=>by simp [flB]
 | i+1=>by rw [flB,pourB_len,flB_len ps L i]
theorem lkc_big {ps:List PMod} {s w k d:Int} (h:lkc ps s w k d=0):(lay ps s w k).flash≤16384∧(lay ps s w k).ram≤16384:=by
 unfold lkc at h
 split at h
 ·rename_i h1;exact absurd h h1
 split at h
 ·exact absurd h (by decide)
 split at h
 ·exact absurd h (by decide)
 split at h
 ·exact absurd h (by decide)
 split at h
 ·exact absurd h (by decide)
 rename_i h1 h2
 omega
theorem Fl_mono {ps:List PMod} (hv:vlds ps):∀ i j,i≤j→j≤ps.length→Fl ps i≤Fl ps j
 | i,0,h,_=>by
    have:i=0:=by omega
    subst this;exact Int.le_refl _
 | i,j+1,h,hj=>by
   by_cases e:i=j+1
   ·subst e;exact Int.le_refl _
   ·have h1:=Fl_mono hv i j (by omega) (by omega)
    have hm:=hv j (by omega)
    have h2:=tsz_range hm
    have h3:=fsum_range hm _ (Nat.le_refl _)
    show Fl ps i≤Fl ps j+(tsz (ps.getD j zP)+fsum (ps.getD j zP) (ps.getD j zP).bl.length)
    omega
theorem Ra_mono {ps:List PMod} (hv:vlds ps):∀ i j,i≤j→j≤ps.length→Ra ps i≤Ra ps j
 | i,0,h,_=>by
    have:i=0:=by omega
    subst this;exact Int.le_refl _
 | i,j+1,h,hj=>by
   by_cases e:i=j+1
   ·subst e;exact Int.le_refl _
   ·have h1:=Ra_mono hv i j (by omega) (by omega)
    have h2:=dsz_range (hv j (by omega))
    show Ra ps i≤Ra ps j+dsz (ps.getD j zP)
    omega
theorem fsum_mono {P:PMod} (hv:mdoP P=0):∀ i j,i≤j→j≤P.bl.length→fsum P i≤fsum P j
 | i,0,h,_=>by
    have:i=0:=by omega
    subst this;exact Int.le_refl _
 | i,j+1,h,hj=>by
   by_cases e:i=j+1
   ·subst e;exact Int.le_refl _
   ·have h1:=fsum_mono hv i j (by omega) (by omega)
    have h2:=rnd_range (x:=4 * ((P.bl.getD j []).length:Int)) (by omega)
    show fsum P i≤fsum P j+rnd (4 * ((P.bl.getD j []).length:Int))
    omega
structure Lkn (ps:List PMod) (L:Lay):Prop where
 n:1≤ps.length∧ps.length≤4
 v:vlds ps
 im:imps ps
 pl:L.places=(List.range ps.length).map (plc ps)
 fl:L.flash=Fl ps ps.length
 fr:0≤L.flash∧L.flash≤16384
 ra:Ra ps ps.length≤L.ram
 rr:0≤L.ram∧L.ram≤16384
 tg:L.targets=(List.range ps.length).map fun i=>tgs ps (ps.getD i zP)
 st:L.stack=65536+Ra ps ps.length
theorem lok_kn {ps:List PMod} {L:Lay} (h:Lok ps L):Lkn ps L:=by
 obtain ⟨h1,h2⟩:=h
 have e:lay ps (L.slots.length:Int) (cfW L) (cfK L)=L:=by unfold lkL at h2;rw [if_pos h1] at h2;exact h2
 obtain ⟨hc,n1,n2,hv,hi⟩:=lkc_facts h1
 obtain ⟨b1,b2⟩:=lkc_big h1
 unfold cfo at hc
 simp at hc
 have a1:=Fl_range hv ps.length (Nat.le_refl _)
 have a2:=Ra_range hv ps.length (Nat.le_refl _)
 have a3:(0:Int)≤((L.slots.length:Int).toNat:Int) * rnd (4 * cfW L):=Int.mul_nonneg (by omega) (by have:=rnd_range (x:=4 * cfW L) (by omega);omega)
 have e1:L.flash=Fl ps ps.length:=by rw [← e];rfl
 have e2:L.ram=Ra ps ps.length+cfK L+((L.slots.length:Int).toNat:Int) * rnd (4 * cfW L):=by
  have:=congrArg Lay.ram e
  rw [← this];rfl
 rw [e] at b1 b2
 exact ⟨⟨n1,n2⟩,hv,hi,by rw [← e];rfl,e1,⟨by omega,b1⟩,by omega,⟨by omega,b2⟩,by rw [← e];rfl,by have:=congrArg Lay.stack e;rw [← this];rfl⟩
theorem Lkn.place {ps:List PMod} {L:Lay} (h:Lkn ps L) (i:Nat) (hi:i<ps.length):L.places.getD i zPB.1=plc ps i:=by
 rw [h.pl]
 simp [List.getD_eq_getElem?_getD,hi]
theorem vld_rl {P:PMod} (h:mdoP P=0):∀ j,j<P.rz.length→0≤P.rz.getD j 0∧P.rz.getD j 0+4≤(P.dz.length:Int):=by
 unfold mdoP mdo at h
 split at h
 ·exact absurd h (by decide)
 split at h
 ·exact absurd h (by decide)
 split at h
 ·exact absurd h (by decide)
 split at h
 ·exact absurd h (by decide)
 rename_i h1 h2 h3 h4
 intro j hj
 have h5:rlo P.rz.length P.rz P.dz.length=true:=by simpa using h4
 unfold rlo at h5
 rw [Bool.and_eq_true,List.all_eq_true] at h5
 have h6:=h5.2 j (by simpa using hj)
 unfold rlk at h6
 rw [decide_eq_true_eq] at h6
 omega
theorem getD_mem {α:Type} (l:List α) (i:Nat) (z:α) (h:i<l.length):l.getD i z ∈ l:=by simp [List.getD_eq_getElem?_getD,h]
theorem range_getD {α:Type} (f:Nat→α) (n j:Nat) (z:α) (h:j<n):((List.range n).map f).getD j z=f j:=by simp [List.getD_eq_getElem?_getD,h]
theorem vld_wd {P:PMod} (h:mdoP P=0):(∀ i,i<P.tz.length→0≤P.tz.getD i 0∧P.tz.getD i 0≤4294967295)∧∀ k,k<P.bl.length→∀ i,i<(P.bl.getD k []).length→0≤(P.bl.getD k []).getD i 0∧(P.bl.getD k []).getD i 0≤4294967295:=by
 unfold mdoP at h
 have V:=vm_of_mdo (by simp [bkOf]) h
 refine ⟨fun i hi=>V.tw _ (by simp [List.getD_eq_getElem?_getD,hi]),fun k hk i hi=>?_⟩
 have:=(V.bw k (by simp [bkOf];exact hk)).2 ((P.bl.getD k []).getD i 0) (by
  have e:((bkOf P.bl).getD k zB).2.2.2=P.bl.getD k []:=by simp [bkOf,List.getD_eq_getElem?_getD,hk]
  rw [e]
  exact getD_mem _ _ _ hi)
 exact this
theorem Lkn.at {ps:List PMod} {L:Lay} (h:Lkn ps L) (i:Nat) (hi:i<ps.length):
 (0≤(plc ps i).text∧(plc ps i).text+4 * ((ps.getD i zP).tz.length:Int)≤L.flash)∧(plc ps i).banks.length=(ps.getD i zP).bl.length∧(∀ j,j<(ps.getD i zP).bl.length→0≤(plc ps i).banks.getD j 0∧(plc ps i).banks.getD j 0+4 * (((ps.getD i zP).bl.getD j []).length:Int)≤L.flash)∧(65536≤(plc ps i).data∧(plc ps i).data - 65536+((ps.getD i zP).dz.length:Int)≤L.ram):=by
 have hm:=h.v i hi
 have a1:=Fl_range h.v i (by omega)
 have a2:=Fl_mono h.v (i+1) ps.length (by omega) (Nat.le_refl _)
 have a3:Fl ps (i+1)=Fl ps i+(tsz (ps.getD i zP)+fsum (ps.getD i zP) (ps.getD i zP).bl.length):=rfl
 have a4:=fsum_range hm _ (Nat.le_refl _)
 have a5:=rnd_range (x:=4 * ((ps.getD i zP).tz.length:Int)) (by omega)
 have a6:tsz (ps.getD i zP)=rnd (4 * ((ps.getD i zP).tz.length:Int)):=rfl
 have b1:=Ra_range h.v i (by omega)
 have b2:=Ra_mono h.v (i+1) ps.length (by omega) (Nat.le_refl _)
 have b3:Ra ps (i+1)=Ra ps i+dsz (ps.getD i zP):=rfl
 have b4:=vld_en hm
 have b5:=rnd_range (x:=((ps.getD i zP).dz.length:Int)+(ps.getD i zP).bss) (by omega)
 have b6:dsz (ps.getD i zP)=rnd (((ps.getD i zP).dz.length:Int)+(ps.getD i zP).bss):=rfl
 have hfl:=h.fl
 have hra:=h.ra
 refine ⟨⟨a1.1,?_⟩,by simp [plc],fun j hj=>?_,?_,?_⟩
 ·show Fl ps i+4 * _≤_
  omega
 ·have c1:=fsum_range hm j (by omega)
  have c2:=fsum_mono hm (j+1) (ps.getD i zP).bl.length (by omega) (Nat.le_refl _)
  have c3:fsum (ps.getD i zP) (j+1)=fsum (ps.getD i zP) j+rnd (4 * (((ps.getD i zP).bl.getD j []).length:Int)):=rfl
  have c4:=rnd_range (x:=4 * (((ps.getD i zP).bl.getD j []).length:Int)) (by omega)
  have e:(plc ps i).banks.getD j 0=Fl ps i+tsz (ps.getD i zP)+fsum (ps.getD i zP) j:=range_getD _ _ _ _ hj
  rw [e]
  have c5:=tsz_range hm
  omega
 ·show 65536≤65536+Ra ps i
  omega
 ·show 65536+Ra ps i - 65536+_≤_
  omega
structure OM (w:World) (base:Nat) (v1 v2 v3:Value) (x1 x2 x3:List Int):Prop where
 o1:OB w base v1 x1
 o2:OB w base v2 x2
 o3:OB w base v3 x3
 a12:∀ k,v1.ownBlock=some k→v2.ownBlock≠some k
 a13:∀ k,v1.ownBlock=some k→v3.ownBlock≠some k
 a23:∀ k,v2.ownBlock=some k→v3.ownBlock≠some k
def imF (ps:List PMod) (L:Lay):List Int:=@ite _ (Lok ps L) (lokD ps L) (flB ps L ps.length) []
def imR (ps:List PMod) (L:Lay):List Int:=@ite _ (Lok ps L) (lokD ps L) (raB ps L ps.length) []
def ImM (w:World) (ps:List PMod) (L:Lay) (e:Ending) (w':World):Prop:=Below w.heap.size w w'∧∃ a1 n1 c1 a2 n2 c2 a3 n3 c3,e=.returned (.tuple #[.agg #[.slice a1 n1 c1,.slice a2 n2 c2,.slice a3 n3 c3],.bool (decide (Lok ps L))])∧OM w' w.heap.size (.slice a1 n1 c1) (.slice a2 n2 c2) (.slice a3 n3 c3) (imF ps L) (imR ps L) []
theorem ob_row8 {W:World} {base g n:Nat} {zs:List Int} (h:OB W base (.slice (some ⟨g,0,none⟩) n n) zs):W.heap[g]?=some (.cells (zs.map (Value.int .u8)).toArray 5 (0,0))∧zs.length=n∧base≤g∧n≤maxLen:=by
 obtain ⟨hl,⟨h0,_⟩ | ⟨g',cap',cur,hv,hg,hh,h1,h2,h3,h4⟩⟩:=h.1
 ·simp at h0
 ·simp at hv
  obtain ⟨rfl,rfl,rfl⟩:=hv
  refine ⟨?_,rfl,hg,by omega⟩
  have e:cur.toList=zs.map (Value.int .u8):=by rw [← h4,List.take_of_length_le (by simp [h3])]
  rw [hh,← e]
theorem ovr_map (zs:List Int) (f:Nat) (ds:List Int):splice (zs.map (Value.int .u8)) f (ds.map (Value.int .u8))=(ovr zs f ds).map (Value.int .u8):=by
 simp [splice,ovr,List.map_take,List.map_drop]
theorem ovr_range {zs ds:List Int} {f:Nat} (hz:∀ z ∈ zs,0≤z∧z≤255) (hd:∀ z ∈ ds,0≤z∧z≤255):∀ z ∈ ovr zs f ds,0≤z∧z≤255:=fun z h=>by
 unfold ovr at h
 rcases List.mem_append.1 h with h | h
 ·exact hz z (List.mem_of_mem_take h)
 ·rcases List.mem_append.1 h with h | h
  ·exact hd z h
  ·exact hz z (List.mem_of_mem_drop h)
theorem ovr_nil (zs:List Int) (f:Nat):ovr zs f []=zs:=by simp [ovr]
theorem only_setRow (g:Nat) (w:World) (cs:Array Value):Only g w (w.setRow g cs):=⟨by simp [World.setRow],fun k hk=>setRow_other w g k cs hk,rfl,rfl,rfl⟩
theorem ob_of_row {W:World} {base g n:Nat} {zs:List Int} (h:W.heap[g]?=some (.cells (zs.map (Value.int .u8)).toArray 5 (0,0))) (hl:zs.length=n) (hg:base≤g) (hm:n≤maxLen) (hr:∀ z ∈ zs,0≤z∧z≤255):OB W base (.slice (some ⟨g,0,none⟩) n n) zs:=by
 subst hl
 refine ⟨⟨by simp,.inr ⟨g,zs.length,_,rfl,hg,h,Nat.le_refl _,hm,by simp,?_⟩⟩,hr⟩
 simp only [List.toList_toArray,Nat.mul_one]
 exact List.take_of_length_le (by simp)
theorem copy_run {W:World} {base g n f:Nat} {zs ds:List Int} (ho:OB W base (.slice (some ⟨g,0,none⟩) n n) zs) (ty:TypeId) (dp sp:Option Addr) (dLen dCap sLen sCap:Nat) (hds:BS W sp sLen sCap ds) (hle:sLen≤dLen) (hfit:f+sLen≤n) (hpos:0<sLen→dp=some ⟨g,f,none⟩):
 ∃ w',(Builtin.copy_ #[22,22] ty #[.slice dp dLen dCap,.slice sp sLen sCap]).run Tryz.prog W=.ok (goInt sLen) w'∧OB w' base (.slice (some ⟨g,0,none⟩) n n) (ovr zs f ds)∧Only g W w':=by
 obtain ⟨hrow,hlz,hg,hm⟩:=ob_row8 ho
 have hld:=hds.1
 have hi8:(Tryz.prog.info? 5).map (·.size)=some 1:=by kernel_rfl
 by_cases h0:sLen=0
 ·subst h0
  obtain rfl:ds=[]:=List.eq_nil_of_length_eq_zero hld
  exact ⟨W,run_copy_none (P:=Tryz.prog) W _ _ ty 5 dp sp dLen dCap 0 sCap Tryz.underlying22 hi8 (by simp),by rw [ovr_nil];exact ho,only_refl _ _⟩
 ·obtain ⟨b,off,rfl,hc⟩:=hds.2.2.2.1 h0
  rw [hpos (by omega)]
  subst hld
  have hrun:=run_copy_row (P:=Tryz.prog) W 22 22 ty 5 g f dLen dCap ⟨b,off,none⟩ ds.length sCap (zs.map (Value.int .u8)).toArray 5 (ds.map (Value.int .u8)) Tryz.underlying22 hi8 hrow (by rw [List.length_map];exact (Nat.min_eq_left hle).symm) (fun j v hj=>by
   have hjl:j<ds.length:=by
    rcases Nat.lt_or_ge j ds.length with h1 | h1
    ·exact h1
    ·rw [List.getElem?_eq_none (by simp;omega)] at hj;cases hj
   rw [addr_add,hc j hjl,← hj]
   simp [List.getD_eq_getElem?_getD,show j<ds.length by omega]) (by simp;omega) (fun v hv=>by
   simp at hv
   obtain ⟨z,_,rfl⟩:=hv
   rfl)
  rw [List.length_map] at hrun
  refine ⟨_,hrun,?_,only_setRow _ _ _⟩
  refine ob_of_row ?_ (by rw [ovr_len _ _ _ (by omega)];exact hlz) hg hm (ovr_range ho.2 hds.2.2.1)
  have:=setRow_heap W g (zs.map (Value.int .u8)).toArray (splice (zs.map (Value.int .u8)) f (ds.map (Value.int .u8))).toArray 5 (0,0) hrow
  rw [ovr_map] at this
  rw [← ovr_map] at this ⊢
  simpa [splice] using this
end Go.Proofs.YtngdgogjlpjjpadGreat
