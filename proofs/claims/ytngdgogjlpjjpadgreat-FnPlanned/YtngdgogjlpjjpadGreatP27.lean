import Derived.Test.YtngdgogjlpjjpadGreatP23
import Derived.Test.YtngdgogjlpjjpadGreatP21
import Derived.Test.YtngdgogjlpjjpadGreatP22
import Derived.Test.YtngdgogjlpjjpadGreatP25
namespace Go.Proofs.YtngdgogjlpjjpadGreat
open Go.RowKit Classical
set_option linter.unusedVariables false
set_option linter.unusedSimpArgs false
set_option maxRecDepth 100000
theorem cut2 {S F:Nat→World→Prop} {G:Prop} (main:(∀ g W,F g W→S g W)→G) (pf:∀ g W,F g W→S g W):G:=main pf
def wdS (L:Lay):Int:=if 4<L.slots.length then 1 else cfW L
theorem lok_iff (ps:List PMod) (L:Lay):Lok ps L ↔ (lkc ps (L.slots.length:Int) (wdS L) (cfK L) 0=0∧lkL ps (L.slots.length:Int) (wdS L) (cfK L) 0=L):=by
 unfold wdS
 by_cases h:4<L.slots.length
 ·rw [if_pos h]
  have key:∀ wd:Int,lkc ps (L.slots.length:Int) wd (cfK L) 0≠0:=fun wd e=>by
   have hc:=(lkc_facts e).1
   unfold cfo at hc
   simp at hc
   omega
  constructor
  ·intro e;exact absurd e.1 (key _)
  ·intro e;exact absurd e.1 (key _)
 ·rw [if_neg h];rfl
set_option maxHeartbeats 8000000 in
theorem l5Real_any (a:Option Addr) (n0 cap:Nat) (ms:List Md) (L:Lay) (a0:Option Addr) (c0:Nat) (xs:List PB) (a2:Option Addr) (c2:Nat) (a5:Option Addr) (c5:Nat) (ts:List TB) (w:World) (h:MSD w a n0 cap ms) (hL:LyT w L a0 c0 xs a2 c2 a5 c5 ts):
 Calls Tryz.prog 69 #[.slice a n0 cap,.agg #[.slice a0 xs.length c0,.int .i64 L.stack,.slice a2 L.slots.length c2,.int .i64 L.flash,.int .i64 L.ram,.slice a5 ts.length c5]] w fun e w'=>e=.returned (.bool (decide (Lok (pmS ms) L)))∧Below w.heap.size w w':=by
 have hmx:=hL.s.2.1
 unfold maxLen at hmx
 obtain ⟨r,hr⟩:∃ r,r=decide (Lok (pmS ms) L):=⟨_,rfl⟩
 rw [← hr]
 replace hr:r=true ↔ Lok (pmS ms) L:=by rw [hr];simp
 rw [lok_iff] at hr
 have HLB:=hide (layB_lk (pmS ms) (L.slots.length:Int) (wdS L) (cfK L) 0)
 have HLV:=hide (lkL_v (pmS ms) (L.slots.length:Int) (wdS L) (cfK L) 0)
 have HSP:=hide (fun (W:World) (hb:Below w.heap.size w W)=>by
  have:=sLink_any a n0 cap ms (L.slots.length:Int) (wdS L) (cfK L) 0 W (h.below hb)
  unfold LkM layV at this
  exact this)
 generalize lkL (pmS ms) (L.slots.length:Int) (wdS L) (cfK L) 0=LY at *
 generalize lkc (pmS ms) (L.slots.length:Int) (wdS L) (cfK L) 0=C at *
 have HR:=hide hr
 have HEN:=hide (fun (W:World) (hb:Below w.heap.size w W)=>l5Ends_any L a0 c0 xs a2 c2 a5 c5 ts W (hL.below hb))
 have HSL:=hide (fun (LY:Lay) (b0:Option Addr) (d0:Nat) (ys:List PB) (b2:Option Addr) (d2:Nat) (b5:Option Addr) (d5:Nat) (us:List TB) (W:World) (o:LyT W LY b0 d0 ys b2 d2 b5 d5 us) (hb:Below w.heap.size w W)=>SameLayout_any LY b0 d0 ys b2 d2 b5 d5 us L a0 c0 xs a2 c2 a5 c5 ts W o (hL.below hb))
 have HWK:=hide (show IntKind.i64.wrap (endOf L - L.stack)=cfK L from IntWalk.i64_left _)
 have HWD:=hide (show wdS L=if 4<L.slots.length then 1 else cfW L from rfl)
 have HCW:=hide (show cfW L=if L.slots=[] then 1 else wrap64 ((cfQ L).tdiv 4) from rfl)
 have HCQ:=hide (show cfQ L=wrap64 ((wrap64 (wrap64 (65536+L.ram) - L.slots.getD 0 0)).tdiv (L.slots.length:Int)) from rfl)
 have HS:=hide hL.s
 have HNE:=hide (show L.slots=[] ↔ L.slots.length=0 from List.length_eq_zero_iff.symm)
 have hC0:C=C:=rfl
 clear h hL hr hC0
 generalize cfK L=K at *
 generalize wdS L=wd at *
 generalize endOf L=E at *
 generalize L.slots.length=n at *
 have B0:Below w.heap.size w (w.alloc (.cells #[.slice a0 xs.length c0,.int .i64 L.stack,.slice a2 n c2,.int .i64 L.flash,.int .i64 L.ram,.slice a5 ts.length c5] 32)):=(Below.refl _ _).alloc (Nat.le_refl _) _
 have k0:=Blk.new w #[.slice a0 xs.length c0,.int .i64 L.stack,.slice a2 n c2,.int .i64 L.flash,.int .i64 L.ram,.slice a5 ts.length c5] 32
 go_enter Tryz.func69,Tryz.ntmps69
 go_wp2_with fail
 generalize w.alloc (.cells #[.slice a0 xs.length c0,.int .i64 L.stack,.slice a2 n c2,.int .i64 L.flash,.int .i64 L.ram,.slice a5 ts.length c5] 32)=W0 at *
 have hw0:w.heap.size<W0.heap.size:=k0.lt
 obtain ⟨x0,x1,x2,x3,x4,x5⟩:=k0.ly6
 have HK0:=hide (And.intro B0 k0)
 have HEZ:=hide (fun (zc:Array Value) (t:TypeId) (X:World) (o:Option Nat) (hz:Zb zc t W0 X o)=>(HEN.out X (HK0.out.1.trans (hz.1.mono HK0.out.1.size))).mono (fun e w' he=>show e=.returned (.int .i64 E)∧Zb zc t W0 w' o from ⟨he.1,hz.below he.2⟩))
 have HCL:=hide (fun (W:World) (hb:Below W0.heap.size W0 W)=>(HK0.out.2.below hb).ly6)
 have HY0:=hide (zb_new #[.int .i64 0,.int .i64 0,.int .i64 0,.int .i64 0] 25 W0)
 have HFB:=hide (fun (X:World) (hz:Zb #[.int .i64 0,.int .i64 0,.int .i64 0,.int .i64 0] 25 W0 X none)=>show Below W0.heap.size W0 (X.alloc (.cells #[.int .i64 n,.int .i64 1,.int .i64 K,.int .i64 0] 25))∧Blk (X.alloc (.cells #[.int .i64 n,.int .i64 1,.int .i64 K,.int .i64 0] 25)) X.heap.size #[.int .i64 n,.int .i64 1,.int .i64 K,.int .i64 0] 25∧W0.heap.size≤X.heap.size from ⟨hz.1.alloc hz.1.size _,Blk.new _ _ _,hz.1.size⟩)
 have HFA:=hide (fun (X:World) (g:Nat) (hz:Zb #[.int .i64 0,.int .i64 0,.int .i64 0,.int .i64 0] 25 W0 X (some g))=>show Below W0.heap.size W0 ((((X.setCell ⟨g,0,none⟩ (.int .i64 n)).setCell ⟨g,1,none⟩ (.int .i64 1)).setCell ⟨g,2,none⟩ (.int .i64 K)).setCell ⟨g,3,none⟩ (.int .i64 0))∧Blk ((((X.setCell ⟨g,0,none⟩ (.int .i64 n)).setCell ⟨g,1,none⟩ (.int .i64 1)).setCell ⟨g,2,none⟩ (.int .i64 K)).setCell ⟨g,3,none⟩ (.int .i64 0)) g #[.int .i64 n,.int .i64 1,.int .i64 K,.int .i64 0] 25∧W0.heap.size≤g from by
  obtain ⟨hg,hk⟩:=hz.2 g rfl
  have T:Turn (fun j=>j=g) X ((((X.setCell ⟨g,0,none⟩ (.int .i64 n)).setCell ⟨g,1,none⟩ (.int .i64 1)).setCell ⟨g,2,none⟩ (.int .i64 K)).setCell ⟨g,3,none⟩ (.int .i64 0)):=(((turn_set _ _ _ _).trans (turn_set _ _ _ _)).trans (turn_set _ _ _ _)).trans (turn_set _ _ _ _)
  have kz:=(((hk.set 0 (.int .i64 n)).set 1 (.int .i64 1)).set 2 (.int .i64 K)).set 3 (.int .i64 0)
  simp only [List.setIfInBounds_toArray,List.set_cons_zero,List.set_cons_succ] at kz
  exact ⟨below_turn hz.1 T (fun k e=>by omega) hz.1.size,kz,hg⟩)
 clear B0 k0
 apply cut2 (F:=fun gc W=>Below W0.heap.size W0 W∧Blk W gc #[.int .i64 n,.int .i64 1,.int .i64 K,.int .i64 0] 25∧W0.heap.size≤gc)
 ·intro REST0
  have REST:=hide REST0
  clear REST0
  go_region_held3 (fun w'=>w'.cell? ⟨w.heap.size,0,none⟩=some (.slice a0 xs.length c0)∧w'.cell? ⟨w.heap.size,1,none⟩=some (.int .i64 L.stack)∧w'.cell? ⟨w.heap.size,2,none⟩=some (.slice a2 n c2)∧w'.cell? ⟨w.heap.size,3,none⟩=some (.int .i64 L.flash)∧w'.cell? ⟨w.heap.size,4,none⟩=some (.int .i64 L.ram)∧w'.cell? ⟨w.heap.size,5,none⟩=some (.slice a5 ts.length c5)) (go_keep)
   (first
     | (go_at_call 117;first
         | with_reducible refine (HEZ.out _ _ _ none HY0.out).mono ?_
         | with_reducible refine (HEZ.out _ _ _ none HY0.out.drew).mono ?_
         | with_reducible refine (HEZ.out _ _ _ _ HY0.out.box).mono ?_
         | with_reducible refine (HEZ.out _ _ _ _ HY0.out.drew.box).mono ?_
         | with_reducible refine (HEZ.out _ _ _ _ HY0.out.box.drew).mono ?_
        rintro e w1 ⟨rfl,hY1⟩
        have HY1:=hide hY1
        clear hY1
        obtain ⟨d0,d1,d2,d3,d4,d5⟩:=HCL.out w1 HY1.out.1
        have hwr:=HWK.out
        first
         | (have kz:=(HY1.out.2 _ rfl).2
            have z0:=kz.cell 0
            have z1:=kz.cell 1
            have z2:=kz.cell 2
            have z3:=kz.cell 3
            simp only [List.getElem?_toArray,List.getElem?_cons_zero,List.getElem?_cons_succ] at z0 z1 z2 z3
            have zf:=kz.frozen
            have hne:=Nat.ne_of_lt (Nat.lt_of_lt_of_le hw0 (HY1.out.2 _ rfl).1)
            have hne':=hne.symm
            clear kz)
         | skip))
  all_goals try simp only [HWK.out]
  ·have HF:=hide (HFB.out _ HY1.out)
   generalize w1.alloc (.cells #[.int .i64 n,.int .i64 1,.int .i64 K,.int .i64 0] 25)=W' at HF ⊢
   generalize w1.heap.size=gc at HF ⊢
   exact REST.out gc W' HF.out
  all_goals exact REST.out _ _ (HFA.out _ _ HY1.out)
 ·rintro gc W ⟨hb,kc,hg⟩
  show Exit.then _ _ _ _ _
  have B1:=HK0.out.1.trans (hb.mono HK0.out.1.size)
  have k1:=HK0.out.2.below hb
  obtain ⟨d0,d1,d2,d3,d4,d5⟩:=k1.ly6
  have hne:=Nat.ne_of_lt (Nat.lt_of_lt_of_le hw0 hg)
  clear hb x0 x1 x2 x3 x4 x5 HK0 HEZ HCL HY0 HFA HFB HEN HWK
  by_cases hB:0<n∧n≤4
  ·obtain ⟨hn0,hn4⟩:=hB
   have hn0':(0:Int)<(n:Int):=by omega
   have hn4':(n:Int)≤4:=by omega
   have he:((n:Int) == 0)=false:=by simp;omega
   have hnz:¬ ((n:Int)=0):=by omega
   have hnn:¬ (n=0):=by omega
   obtain ⟨b,off,rfl,hc⟩:=HS.out.2.2.2.1 (by omega)
   have q0:=hc 0 hn0
   rw [Nat.add_zero] at q0
   have nb:b≠gc:=by
    have h2:=World.block_lt_of_cell? _ _ q0
    dsimp only at h2
    omega
   have q:=cell_below B1 q0
   clear q0
   have HVW:=hide (show wrap64 ((wrap64 ((wrap64 (wrap64 (65536+L.ram) - L.slots.getD 0 0)).tdiv (n:Int))).tdiv 4)=wd by rw [HWD.out,if_neg (by omega),HCW.out,if_neg (by rw [HNE.out];omega),HCQ.out])
   generalize L.slots.getD 0 0=z at *
   have y0:W.cell? ⟨gc,1,none⟩=some (.int .i64 1):=kc.cell 1
   have yf:=kc.frozen
   have nb':=nb.symm
   have hne':=hne.symm
   clear hc
   have hgw:=hide (show w.heap.size≤gc by omega)
   have HX:=hide (And.intro B1 (And.intro k1 kc))
   clear B1 k1 kc hw0 hg
   go_wp2
   go_region_held3 (fun w'=>w'.cell? ⟨w.heap.size,4,none⟩=some (.int .i64 L.ram)∧w'.cell? ⟨w.heap.size,2,none⟩=some (.slice (some ⟨b,off,none⟩) n c2)∧w'.cell? ⟨b,off,none⟩=some (.int .i64 z)) (go_keep) (fail)
   simp only [IntWalk.i64_left]
   rw [HVW.out]
   obtain ⟨B1,k1,kc⟩:=HX.out
   have T:Turn (fun j=>j=gc) W (W.setCell ⟨gc,1,none⟩ (.int .i64 wd)):=turn_set _ _ _ _
   have B5:=(below_turn B1 T (fun k e=>by have:=hgw.out;omega) B1.size).drew
   have k5':=turn_blk T k1 (fun e=>hne e)
   have k5:Blk ((W.setCell ⟨gc,1,none⟩ (.int .i64 wd)).drew) w.heap.size _ _:=k5'
   have kc5:Blk ((W.setCell ⟨gc,1,none⟩ (.int .i64 wd)).drew) gc _ _:=kc.set 1 (.int .i64 wd)
   simp only [List.setIfInBounds_toArray,List.set_cons_zero,List.set_cons_succ] at kc5
   generalize (W.setCell ⟨gc,1,none⟩ (.int .i64 wd)).drew=W5 at *
   clear T B1 k1 kc k5' HX q d0 d1 d2 d3 d4 d5 y0 yf nb nb'
   obtain ⟨d0,d1,d2,d3,d4,d5⟩:=k5.ly6
   have y0:W5.cell? ⟨gc,0,none⟩=some (.int .i64 n):=kc5.cell 0
   have y1:W5.cell? ⟨gc,1,none⟩=some (.int .i64 wd):=kc5.cell 1
   have y2:W5.cell? ⟨gc,2,none⟩=some (.int .i64 K):=kc5.cell 2
   have y3:W5.cell? ⟨gc,3,none⟩=some (.int .i64 0):=kc5.cell 3
   go_wp2_with fail
   refine (HSP.out _ B5).mono ?_
   rintro e w2 ⟨hb2,b0,d0,ys,b2,d2,b5,d5,us,rfl,O2⟩
   have hA:Below w2.heap.size w2 (w2.alloc (.cells #[.slice b0 ys.length d0,.int .i64 LY.stack,.slice b2 LY.slots.length d2,.int .i64 LY.flash,.int .i64 LY.ram,.slice b5 us.length d5] 32)):=(Below.refl _ _).alloc (Nat.le_refl _) _
   have kt:=Blk.new w2 #[.slice b0 ys.length d0,.int .i64 LY.stack,.slice b2 LY.slots.length d2,.int .i64 LY.flash,.int .i64 LY.ram,.slice b5 us.length d5] 32
   have B2:=B5.trans (hb2.mono B5.size)
   have B3:=B2.trans (hA.mono B2.size)
   have k3:=(k5.below hb2).below hA
   have O3:=O2.below' hA
   have HSM:=hide (HSL.out LY b0 d0 ys b2 d2 b5 d5 us _ (O3.lyt HLB.out.r HLV.out) B3)
   have HB3:=hide B3
   obtain ⟨p0,p1,p2,p3,p4,p5⟩:=k3.ly6
   obtain ⟨q0,q1,q2,q3,q4,q5⟩:=kt.ly6
   clear hb2 O2 O3 hA B2 B3 k3 kt y0 y1 y2 y3
   by_cases hC:C=0
   ·have g:(C == 0)=true:=by simpa using hC
    have HV:=hide (show decide (LY=L)=r by rw [Bool.eq_iff_iff,HR.out];simp [hC])
    rw [HV.out] at HSM
    clear hC HR
    go_wp2_with fail
    refine HSM.out.mono ?_
    rintro e w4 ⟨rfl,hb4⟩
    have HB4:=hide (HB3.out.trans (hb4.mono HB3.out.size))
    clear hb4
    cases r
    all_goals
     go_wp2
     go_ret
     exact ⟨rfl,HB4.out⟩
   ·have g:(C == 0)=false:=by simpa using hC
    have HV:=hide (show r=false by cases r;rfl;exact absurd (HR.out.1 rfl).1 hC)
    clear hC HR
    go_wp2
    go_ret
    exact ⟨ret_bool HV.out.symm,HB3.out⟩
  ·have HVW:=hide (show (1:Int)=wd by
    rw [HWD.out]
    by_cases h4:4<n
    ·rw [if_pos h4]
    ·rw [if_neg h4,HCW.out,if_pos (by rw [HNE.out];omega)])
   have g1:0<n→¬ ((n:Int)≤4):=fun h=>by omega
   rw [HVW.out] at kc
   by_cases hn0:0<n
   ·have hn0':(0:Int)<(n:Int):=by omega
    have hn4':¬ ((n:Int)≤4):=by omega
    clear g1
    have y0:W.cell? ⟨gc,0,none⟩=some (.int .i64 n):=kc.cell 0
    have y1:W.cell? ⟨gc,1,none⟩=some (.int .i64 wd):=kc.cell 1
    have y2:W.cell? ⟨gc,2,none⟩=some (.int .i64 K):=kc.cell 2
    have y3:W.cell? ⟨gc,3,none⟩=some (.int .i64 0):=kc.cell 3
    go_wp2_with fail
    refine (HSP.out _ B1).mono ?_
    rintro e w2 ⟨hb2,b0,d0,ys,b2,d2,b5,d5,us,rfl,O2⟩
    have hA:Below w2.heap.size w2 (w2.alloc (.cells #[.slice b0 ys.length d0,.int .i64 LY.stack,.slice b2 LY.slots.length d2,.int .i64 LY.flash,.int .i64 LY.ram,.slice b5 us.length d5] 32)):=(Below.refl _ _).alloc (Nat.le_refl _) _
    have kt:=Blk.new w2 #[.slice b0 ys.length d0,.int .i64 LY.stack,.slice b2 LY.slots.length d2,.int .i64 LY.flash,.int .i64 LY.ram,.slice b5 us.length d5] 32
    have B2:=B1.trans (hb2.mono B1.size)
    have B3:=B2.trans (hA.mono B2.size)
    have k3:=(k1.below hb2).below hA
    have O3:=O2.below' hA
    have HSM:=hide (HSL.out LY b0 d0 ys b2 d2 b5 d5 us _ (O3.lyt HLB.out.r HLV.out) B3)
    have HB3:=hide B3
    obtain ⟨p0,p1,p2,p3,p4,p5⟩:=k3.ly6
    obtain ⟨q0,q1,q2,q3,q4,q5⟩:=kt.ly6
    clear hb2 O2 O3 hA B2 B3 k3 kt y0 y1 y2 y3
    by_cases hC:C=0
    ·have g:(C == 0)=true:=by simpa using hC
     have HV:=hide (show decide (LY=L)=r by rw [Bool.eq_iff_iff,HR.out];simp [hC])
     rw [HV.out] at HSM
     clear hC HR
     go_wp2_with fail
     refine HSM.out.mono ?_
     rintro e w4 ⟨rfl,hb4⟩
     have HB4:=hide (HB3.out.trans (hb4.mono HB3.out.size))
     clear hb4
     cases r
     all_goals
      go_wp2
      go_ret
      exact ⟨rfl,HB4.out⟩
    ·have g:(C == 0)=false:=by simpa using hC
     have HV:=hide (show r=false by cases r;rfl;exact absurd (HR.out.1 rfl).1 hC)
     clear hC HR
     go_wp2
     go_ret
     exact ⟨ret_bool HV.out.symm,HB3.out⟩
   ·have hn0':¬ ((0:Int)<(n:Int)):=by omega
    clear g1
    have y0:W.cell? ⟨gc,0,none⟩=some (.int .i64 n):=kc.cell 0
    have y1:W.cell? ⟨gc,1,none⟩=some (.int .i64 wd):=kc.cell 1
    have y2:W.cell? ⟨gc,2,none⟩=some (.int .i64 K):=kc.cell 2
    have y3:W.cell? ⟨gc,3,none⟩=some (.int .i64 0):=kc.cell 3
    go_wp2_with fail
    refine (HSP.out _ B1).mono ?_
    rintro e w2 ⟨hb2,b0,d0,ys,b2,d2,b5,d5,us,rfl,O2⟩
    have hA:Below w2.heap.size w2 (w2.alloc (.cells #[.slice b0 ys.length d0,.int .i64 LY.stack,.slice b2 LY.slots.length d2,.int .i64 LY.flash,.int .i64 LY.ram,.slice b5 us.length d5] 32)):=(Below.refl _ _).alloc (Nat.le_refl _) _
    have kt:=Blk.new w2 #[.slice b0 ys.length d0,.int .i64 LY.stack,.slice b2 LY.slots.length d2,.int .i64 LY.flash,.int .i64 LY.ram,.slice b5 us.length d5] 32
    have B2:=B1.trans (hb2.mono B1.size)
    have B3:=B2.trans (hA.mono B2.size)
    have k3:=(k1.below hb2).below hA
    have O3:=O2.below' hA
    have HSM:=hide (HSL.out LY b0 d0 ys b2 d2 b5 d5 us _ (O3.lyt HLB.out.r HLV.out) B3)
    have HB3:=hide B3
    obtain ⟨p0,p1,p2,p3,p4,p5⟩:=k3.ly6
    obtain ⟨q0,q1,q2,q3,q4,q5⟩:=kt.ly6
    clear hb2 O2 O3 hA B2 B3 k3 kt y0 y1 y2 y3
    by_cases hC:C=0
    ·have g:(C == 0)=true:=by simpa using hC
     have HV:=hide (show decide (LY=L)=r by rw [Bool.eq_iff_iff,HR.out];simp [hC])
     rw [HV.out] at HSM
     clear hC HR
     go_wp2_with fail
     refine HSM.out.mono ?_
     rintro e w4 ⟨rfl,hb4⟩
     have HB4:=hide (HB3.out.trans (hb4.mono HB3.out.size))
     clear hb4
     cases r
     all_goals
      go_wp2
      go_ret
      exact ⟨rfl,HB4.out⟩
    ·have g:(C == 0)=false:=by simpa using hC
     have HV:=hide (show r=false by cases r;rfl;exact absurd (HR.out.1 rfl).1 hC)
     clear hC HR
     go_wp2
     go_ret
     exact ⟨ret_bool HV.out.symm,HB3.out⟩
end Go.Proofs.YtngdgogjlpjjpadGreat
