import Derived.Test.YtngdgogjlpjjpadGreatP23
import Derived.Test.YtngdgogjlpjjpadGreatP40
import Derived.Test.YtngdgogjlpjjpadGreatP43
namespace Go.Proofs.YtngdgogjlpjjpadGreat
open Go.RowKit Classical
set_option linter.unusedVariables false
set_option linter.unusedSimpArgs false
set_option maxRecDepth 100000
theorem opl_fr {w:World} {base lo n c g:Nat} {xs:List PB} (h:OPl w base lo (.slice (some ⟨g,0,none⟩) n c) xs) (i:Nat):w.frozen? ⟨g,i,none⟩=false:=by
 obtain ⟨cs,k⟩:=own_kind h.head (k:=g) rfl
 exact k.frozen i
set_option maxHeartbeats 8000000 in
theorem l5Layout_any (zs:List Int) (hz:∀ j,0≤zs.getD j 0∧zs.getD j 0≤255) (k:Nat) (w:World) (r:Nat) (a:Option Addr) (n c:Nat) (h:Dst w w r a n c zs k):
 Calls Tryz.prog 107 #[.pointer (some ⟨r,0,none⟩)] w (LoP w r a n c zs):=by
 obtain ⟨K,E1,z0,z1⟩:=draw_of hz k
 obtain ⟨⟨Ps,k1⟩,⟨l1,l3,hD⟩,hM⟩:=l4Modules_fn zs hz (k+1)
 dsimp only at l1 l3 hD hM
 obtain ⟨iI,hiI,hz0iI,hz1iI,hz2iI⟩:=info_parts infoI
 have HZ:=hide hz
 have HM:=hide hM
 have d8:IntKind.i64.wrap (K.tdiv 8)=K / 8:=by rw [Int.tdiv_eq_ediv_of_nonneg z0,wr62 _ (by omega) (by omega)]
 have m8:K.tmod 8=K % 8:=Int.tmod_eq_emod_of_nonneg z0
 have m2:(K / 8).tmod 2=K / 8 % 2:=Int.tmod_eq_emod_of_nonneg (by omega)
 obtain ⟨w0,hw0⟩:∃ w0,w0=w.alloc (.cells #[.slice none 0 0,.int .i64 0,.slice none 0 0,.int .i64 0,.int .i64 0,.slice none 0 0] 32):=⟨_,rfl⟩
 have D0:Dst w w0 r a n c zs k:=by rw [hw0];exact h.below (al_below _ _)
 have R0:Blk w0 w.heap.size #[.slice none 0 0,.int .i64 0,.slice none 0 0,.int .i64 0,.int .i64 0,.slice none 0 0] 32:=by rw [hw0];exact Blk.new w _ _
 have hs0:w0.heap.size=w.heap.size+1:=by rw [hw0];simp
 have HD0:=hide D0
 have HR0:=hide R0
 have HW0:=hide hw0
 have HN:=hide (D0.fresh.next K E1)
 have hlt:=h.lt
 clear hz hM h hw0 D0 R0
 go_enter Tryz.func107,Tryz.ntmps107
 go_wp2_with (rw [← HW0.out])
 refine HN.out.mono ?_
 rintro e w1 ⟨rfl,D1,_⟩
 have CC:=hide (HM.out w1 r a n c D1.fresh)
 have HD1:=hide D1
 clear D1 E1 HM HN
 go_wp2_with fail
 refine CC.out.mono ?_
 rintro e w2 ⟨g,cap,Lm,rfl,S,hL⟩
 have hm:Lm.length=Ps.length:=by have:=congrArg List.length hL;rw [List.length_map] at this;exact this
 have hP:∀ (i:Nat) (x:PMod × Ma),Lm[i]?=some x→DnR x.1:=fun i x hx=>by
  refine hD x.1 ?_
  rw [← hL]
  exact List.mem_map.2 ⟨x,List.mem_of_getElem? hx,rfl⟩
 have HQ2:=hide (Mq.of HD1.out S hP (by omega))
 have CF:=hide (l5Config_fn zs HZ.out k1 w2 r a n c S.d.fresh)
 have hLm:1≤Lm.length:=by omega
 clear hL hP S hD CC HD1
 generalize Ps.length=m at *
 go_wp2_with fail
 refine CF.out.mono ?_
 rintro e w3 ⟨x1,x2,x3,x4,k3,hx,rfl,D3⟩
 have Q3:=HQ2.out.turn D3.t (HQ2.out.d.trans D3)
 obtain ⟨ma,mc,hv,M3⟩:=dk_msd Q3.o Q3.m Q3.hl
 simp only [Value.slice.injEq] at hv
 obtain ⟨rfl,rfl,rfl⟩:=hv
 have HQ3:=hide Q3
 have R3:=turn_blk D3.t (turn_blk HQ2.out.d.t HR0.out (by omega)) (by omega)
 have HR3:=hide R3
 have hs3:=Q3.d.sz
 have CS:=hide (sLink_any (some ⟨g,0,none⟩) Lm.length cap (Lm.map mdOf) x1 x2 x3 x4 w3 M3)
 have HLB:=hide (layB_lk (pmS (Lm.map mdOf)) x1 x2 x3 x4)
 have HLV:=hide (lkL_v (pmS (Lm.map mdOf)) x1 x2 x3 x4)
 unfold LkM at CS
 generalize lkL (pmS (Lm.map mdOf)) x1 x2 x3 x4=L at *
 generalize lkc (pmS (Lm.map mdOf)) x1 x2 x3 x4=cd at *
 clear Q3 R3 D3 M3 CF HQ2 HR0 hx
 go_wp2_with fail
 refine CS.out.mono ?_
 rintro e w4 ⟨b4,a0,d0,xs,a2,d2,a5,d5,ts,rfl,O4⟩
 generalize hmL:Lm.length=m at *
 have HLm:=hide (show 1≤Lm.length by omega)
 clear hmL
 unfold layV
 obtain ⟨w5,hw5⟩:∃ w5,w5=w4.alloc (.cells #[.slice a0 xs.length d0,.int .i64 L.stack,.slice a2 L.slots.length d2,.int .i64 L.flash,.int .i64 L.ram,.slice a5 ts.length d5] 32):=⟨_,rfl⟩
 have b5:Below w4.heap.size w4 w5:=by rw [hw5];exact al_below _ _
 have K5:Blk w5 w4.heap.size #[.slice a0 xs.length d0,.int .i64 L.stack,.slice a2 L.slots.length d2,.int .i64 L.flash,.int .i64 L.ram,.slice a5 ts.length d5] 32:=by rw [hw5];exact Blk.new _ _ _
 have O5:=O4.below' b5
 have T5:Turn (fun j=>w3.heap.size≤j) w3 w5:=(turn_below b4).trans (turn_below b5)
 have R5:=(HR3.out.below b4).below b5
 have s4:=b4.size
 have s5:=b5.size
 obtain ⟨⟨p0,p1,p2,p3,p4,p5⟩,f0,f1,f2,f3,f4,f5⟩:=K5.fr6
 obtain ⟨⟨r0,r1,r2,r3,r4,r5⟩,e0,e1,e2,e3,e4,e5⟩:=R5.fr6
 have HW5:=hide hw5
 have HT:=hide (show ∀ X:World,Turn (fun j=>w3.heap.size≤j) w5 X→∀ v0 v1 v2 v3 v4 v5,Turn (fun j=>j=w.heap.size∨w3.heap.size≤j) w3 (st6 X w.heap.size v0 v1 v2 v3 v4 v5).drew from fun X t v0 v1 v2 v3 v4 v5=>(((T5.trans t).mono (fun j s=>.inr s)).trans ((turn_st6 X w.heap.size v0 v1 v2 v3 v4 v5).mono (fun j s=>.inl s))).trans (turn_below (Below.refl _ _).drew))
 have HF:=hide (show ∀ X:World,Turn (fun j=>w3.heap.size≤j) w5 X→∀ {L':Lay} {a0:Option Addr} {c0:Nat} {xs:List PB} {a2:Option Addr} {c2:Nat} {a5:Option Addr} {c5:Nat} {ts:List TB},LayP X w3.heap.size L' a0 c0 xs a2 c2 a5 c5 ts→LayR L'→(wfi L'.stack∧wfi L'.flash∧wfi L'.ram)→∀ v0 v1 v2 v3 v4 v5,LoP w r a n c zs (.returned (.tuple #[.slice (some ⟨g,0,none⟩) m cap,.agg #[.slice a0 xs.length c0,.int .i64 L'.stack,.slice a2 L'.slots.length c2,.int .i64 L'.flash,.int .i64 L'.ram,.slice a5 ts.length c5]])) (st6 X w.heap.size v0 v1 v2 v3 v4 v5).drew from fun X t {L' a0 c0 xs a2 c2 a5 c5 ts} P R hv v0 v1 v2 v3 v4 v5=>lo_fin HD0.out HQ3.out HLm.out (Nat.le_refl _) (by omega) (HT.out X t v0 v1 v2 v3 v4 v5) (by omega) ((P.kept (turn_st6 X w.heap.size v0 v1 v2 v3 v4 v5) (fun j s=>.inl (by omega))).kept (S:=fun _=>False) (turn_below (Below.refl _ _).drew) (fun j s=>s.elim)) R hv)
 have HO5:=hide (And.intro O5 (And.intro K5 R5))
 clear hw5 b4 b5 K5 O5 T5 R5 O4 HR3 CS
 have hb4:w3.heap.size≤w4.heap.size:=s4
 have set5:∀ (X:World),Turn (fun j=>w3.heap.size≤j) w5 X→∀ i v,Turn (fun j=>w3.heap.size≤j) w5 (X.setCell ⟨w4.heap.size,i,none⟩ v):=fun X t i v=>t.trans ((turn_set X _ i v).mono (fun j s=>by omega))
 have HS5:=hide set5
 have HL4:=hide HLB.out.s
 clear set5
 generalize hnx:xs.length=nx at *
 have HNX:=hide hnx
 clear hnx
 by_cases h0:K % 8=0
 ·by_cases hx0:nx=0
  ·have hx0':¬ (0:Int)<(nx:Int):=by omega
   clear hx0
   go_wp2_with (rw [← HW5.out])
   go_region
   all_goals
    go_wp2
    refine lo_end HO5.out.2.2 _ _ _ _ _ _ _ _ rfl rfl ?_
    have:=HNX.out
    subst this
    exact HF.out _ (Turn.refl _ _) HO5.out.1.pp HLB.out.r HLV.out _ _ _ _ _ _
  ·have hx0':(0:Int)<(nx:Int):=by omega
   obtain ⟨g0,rfl,_,_,q2,_⟩:=opl_at HO5.out.1.p 0 (by have:=HNX.out;omega)
   have qf:=opl_fr HO5.out.1.p 2
   have hg0:=(HO5.out.1.p.lt.1 g0 rfl).1
   simp only [Nat.zero_mul,Nat.zero_add] at q2
   generalize (xs.getD 0 zPB).1.data=dt at *
   have HG:=hide hg0
   have hgw:g0≠w.heap.size:=by omega
   have hgb:g0≠w4.heap.size:=fun e=>by
    obtain ⟨cs,kk⟩:=own_kind HO5.out.1.p.head (k:=g0) rfl
    subst e
    exact absurd (blk_kind kk HO5.out.2.1) (by decide)
   obtain ⟨d,hd⟩:∃ d,d=wrap64 (dt+(K / 8 % 3 * 32 - 32)):=⟨_,rfl⟩
   have T6:=turn_set w5 g0 2 (.int .i64 d)
   have R6:=turn_blk T6 HO5.out.2.2 (Ne.symm hgw)
   have K6:=turn_blk T6 HO5.out.2.1 (Ne.symm hgb)
   obtain ⟨X6,hX6⟩:∃ X6,X6=w5.setCell ⟨g0,2,none⟩ (.int .i64 d):=⟨_,rfl⟩
   rw [← hX6] at T6 R6 K6
   have HX6:=hide hX6
   have HT6:=hide (show Turn (fun j=>w3.heap.size≤j) w5 X6 from T6.mono (fun j s=>by omega))
   have HK6:=hide (And.intro K6 R6)
   have HD:=hide hd
   clear hx0 hg0 hd hX6 T6 K6 R6 hgw hgb
   go_wp2_with (rw [← HW5.out])
   rw [← HD.out,← HX6.out]
   clear p0 p1 p2 p3 p4 p5 f0 f1 f2 f3 f4 f5 r0 r1 r2 r3 r4 r5 e0 e1 e2 e3 e4 e5 q2 qf
   obtain ⟨⟨p0,p1,p2,p3,p4,p5⟩,f0,f1,f2,f3,f4,f5⟩:=HK6.out.1.fr6
   obtain ⟨⟨r0,r1,r2,r3,r4,r5⟩,e0,e1,e2,e3,e4,e5⟩:=HK6.out.2.fr6
   go_region
   all_goals
    go_wp2
    refine lo_end HK6.out.2 _ _ _ _ _ _ _ _ rfl rfl ?_
    have hn:=HNX.out
    subst hn
    obtain ⟨x,xs,rfl⟩:∃ x xs',xs=x :: xs':=by
     cases xs with
     | nil=>exact absurd hx0' (by simp)
     | cons x xs=>exact ⟨x,xs,rfl⟩
    have hps:=HO5.out.1.ps
    rw [List.map_cons] at hps
    have P6:=(HO5.out.1.data d).pp
    rw [← HX6.out] at P6
    exact HF.out X6 HT6.out P6 (HLB.out.r.data hps.symm d) HLV.out _ _ _ _ _ _
 ·have nA:(K % 8 == 0)=false:=by simp [h0]
  have hbx:w4.heap.size≠w.heap.size:=by omega
  by_cases h1:K % 8=1
  ·obtain ⟨d,hd⟩:∃ d,d=wrap64 (L.stack+(K / 8 % 3 * 32 - 32)):=⟨_,rfl⟩
   have T6:=turn_set w5 w4.heap.size 1 (.int .i64 d)
   have R6:=turn_blk T6 HO5.out.2.2 (Ne.symm hbx)
   have K6:=HO5.out.2.1.set 1 (.int .i64 d)
   have P6:=(HO5.out.1.pp.kept T6 (fun j s=>.inr (by subst s;exact ⟨_,HO5.out.2.1⟩))).num d L.ram
   obtain ⟨X6,hX6⟩:∃ X6,X6=w5.setCell ⟨w4.heap.size,1,none⟩ (.int .i64 d):=⟨_,rfl⟩
   rw [← hX6] at T6 R6 K6 P6
   have HX6:=hide hX6
   have HT6:=hide (show Turn (fun j=>w3.heap.size≤j) w5 X6 from T6.mono (fun j s=>by omega))
   have HK6:=hide (show Blk X6 w4.heap.size #[.slice a0 nx d0,.int .i64 d,.slice a2 L.slots.length d2,.int .i64 L.flash,.int .i64 L.ram,.slice a5 ts.length d5] 32∧_ from And.intro (by simpa using K6) (And.intro R6 P6))
   have HD:=hide hd
   clear hd hX6 T6 K6 R6 P6
   go_wp2_with (rw [← HW5.out])
   rw [← HD.out,← HX6.out]
   clear p0 p1 p2 p3 p4 p5 f0 f1 f2 f3 f4 f5 r0 r1 r2 r3 r4 r5 e0 e1 e2 e3 e4 e5
   obtain ⟨⟨p0,p1,p2,p3,p4,p5⟩,f0,f1,f2,f3,f4,f5⟩:=HK6.out.1.fr6
   obtain ⟨⟨r0,r1,r2,r3,r4,r5⟩,e0,e1,e2,e3,e4,e5⟩:=HK6.out.2.1.fr6
   go_region
   all_goals
    go_wp2
    refine lo_end HK6.out.2.1 _ _ _ _ _ _ _ _ rfl rfl ?_
    have hn:=HNX.out
    subst hn
    exact HF.out X6 HT6.out HK6.out.2.2 (HLB.out.r.num d L.ram) ⟨by rw [HD.out];exact wrap_wfi _,HLV.out.2.1,HLV.out.2.2⟩ _ _ _ _ _ _
  by_cases h3:K % 8=3
  ·obtain ⟨d,hd⟩:∃ d,d=wrap64 (L.ram+K / 8 % 3 * 32):=⟨_,rfl⟩
   have T6:=turn_set w5 w4.heap.size 4 (.int .i64 d)
   have R6:=turn_blk T6 HO5.out.2.2 (Ne.symm hbx)
   have K6:=HO5.out.2.1.set 4 (.int .i64 d)
   have P6:=(HO5.out.1.pp.kept T6 (fun j s=>.inr (by subst s;exact ⟨_,HO5.out.2.1⟩))).num L.stack d
   obtain ⟨X6,hX6⟩:∃ X6,X6=w5.setCell ⟨w4.heap.size,4,none⟩ (.int .i64 d):=⟨_,rfl⟩
   rw [← hX6] at T6 R6 K6 P6
   have HX6:=hide hX6
   have HT6:=hide (show Turn (fun j=>w3.heap.size≤j) w5 X6 from T6.mono (fun j s=>by omega))
   have HK6:=hide (show Blk X6 w4.heap.size #[.slice a0 nx d0,.int .i64 L.stack,.slice a2 L.slots.length d2,.int .i64 L.flash,.int .i64 d,.slice a5 ts.length d5] 32∧_ from And.intro (by simpa using K6) (And.intro R6 P6))
   have HD:=hide hd
   clear hd hX6 T6 K6 R6 P6
   go_wp2_with (rw [← HW5.out])
   rw [← HD.out,← HX6.out]
   clear p0 p1 p2 p3 p4 p5 f0 f1 f2 f3 f4 f5 r0 r1 r2 r3 r4 r5 e0 e1 e2 e3 e4 e5
   obtain ⟨⟨p0,p1,p2,p3,p4,p5⟩,f0,f1,f2,f3,f4,f5⟩:=HK6.out.1.fr6
   obtain ⟨⟨r0,r1,r2,r3,r4,r5⟩,e0,e1,e2,e3,e4,e5⟩:=HK6.out.2.1.fr6
   go_region
   all_goals
    go_wp2
    refine lo_end HK6.out.2.1 _ _ _ _ _ _ _ _ rfl rfl ?_
    have hn:=HNX.out
    subst hn
    exact HF.out X6 HT6.out HK6.out.2.2 (HLB.out.r.num L.stack d) ⟨HLV.out.1,HLV.out.2.1,by rw [HD.out];exact wrap_wfi _⟩ _ _ _ _ _ _
  by_cases h2:K % 8=2∧K / 8 % 2=1
  ·obtain ⟨h2,h22⟩:=h2
   have b6:=al_below w5 (.cells #[.int .i64 (wrap64 (L.ram+65536))] 3)
   have O6:=HO5.out.1.below' b6
   have HOW:=hide (show (w5.alloc (.cells #[.int .i64 (wrap64 (L.ram+65536))] 3)).ownsRow w3.heap.size 3 1 (.slice a2 L.slots.length d2) L.slots.length (L.slots.flatMap clI) from O6.s)
   have HNW:=hide (cells_new w5 #[.int .i64 (wrap64 (L.ram+65536))] 3 (clI (wrap64 (L.ram+65536))) rfl)
   have hl4:L.slots.length≤4:=HL4.out
   have hs6:=b6.size
   have HL7:=hide (show ∀ (v':Value) (w7:World),w7.ownsRow w3.heap.size 3 1 v' (L.slots.length+1) (L.slots.flatMap clI++clI (wrap64 (L.ram+65536)))→(w5.alloc (.cells #[.int .i64 (wrap64 (L.ram+65536))] 3)).grownBy w7 (Value.slice a2 L.slots.length d2).ownBlock→∃ (a2':Option Addr) (d2':Nat),v'=.slice a2' (L.slots.length+1) d2'∧Blk w7 w4.heap.size #[.slice a0 nx d0,.int .i64 L.stack,.slice a2 L.slots.length d2,.int .i64 L.flash,.int .i64 L.ram,.slice a5 ts.length d5] 32∧Blk (w7.setCell ⟨w4.heap.size,2,none⟩ (.slice a2' (L.slots.length+1) d2')) w4.heap.size #[.slice a0 nx d0,.int .i64 L.stack,.slice a2' (L.slots.length+1) d2',.int .i64 L.flash,.int .i64 L.ram,.slice a5 ts.length d5] 32∧Blk ((w7.setCell ⟨w4.heap.size,2,none⟩ (.slice a2' (L.slots.length+1) d2')).setCell ⟨w4.heap.size,4,none⟩ (.int .i64 (wrap64 (L.ram+32 * (K / 8))))) w4.heap.size #[.slice a0 nx d0,.int .i64 L.stack,.slice a2' (L.slots.length+1) d2',.int .i64 L.flash,.int .i64 (wrap64 (L.ram+32 * (K / 8))),.slice a5 ts.length d5] 32∧Blk ((w7.setCell ⟨w4.heap.size,2,none⟩ (.slice a2' (L.slots.length+1) d2')).setCell ⟨w4.heap.size,4,none⟩ (.int .i64 (wrap64 (L.ram+32 * (K / 8))))) w.heap.size #[.slice none 0 0,.int .i64 0,.slice none 0 0,.int .i64 0,.int .i64 0,.slice none 0 0] 32∧LayP ((w7.setCell ⟨w4.heap.size,2,none⟩ (.slice a2' (L.slots.length+1) d2')).setCell ⟨w4.heap.size,4,none⟩ (.int .i64 (wrap64 (L.ram+32 * (K / 8))))) w3.heap.size { L with slots:=L.slots++[wrap64 (L.ram+65536)],ram:=wrap64 (L.ram+32 * (K / 8)) } a0 d0 xs a2' d2' a5 d5 ts∧Turn (fun j=>w3.heap.size≤j) w5 ((w7.setCell ⟨w4.heap.size,2,none⟩ (.slice a2' (L.slots.length+1) d2')).setCell ⟨w4.heap.size,4,none⟩ (.int .i64 (wrap64 (L.ram+32 * (K / 8))))) from fun v' w7 hown hgr=>by
    have o7:OG 3 1 clI w7 w3.heap.size v' (L.slots++[wrap64 (L.ram+65536)]):=by
     unfold OG
     rw [List.length_append,List.flatMap_append,List.flatMap_singleton]
     exact hown
    obtain ⟨a2',d2',rfl⟩:=og_shape o7
    have P7:=O6.slot (r:=wrap64 (L.ram+32 * (K / 8))) hgr o7
    rw [List.length_append] at *
    have hbox:∀ cs g,Blk (w5.alloc (.cells #[.int .i64 (wrap64 (L.ram+65536))] 3)) g cs 32→Blk w7 g cs 32:=fun cs g hb=>grown_blk hgr hb (fun e=>by
     obtain ⟨c1,k1⟩:=own_kind O6.s e.symm
     exact absurd (blk_kind k1 hb) (by decide))
    have K7:=hbox _ _ (HO5.out.2.1.below b6)
    have R7:=hbox _ _ (HO5.out.2.2.below b6)
    have K8:=K7.set 2 (.slice a2' (L.slots.length+1) d2')
    have K9:=K8.set 4 (.int .i64 (wrap64 (L.ram+32 * (K / 8))))
    have T89:Turn (fun j=>j=w4.heap.size) w7 ((w7.setCell ⟨w4.heap.size,2,none⟩ (.slice a2' (L.slots.length+1) d2')).setCell ⟨w4.heap.size,4,none⟩ (.int .i64 (wrap64 (L.ram+32 * (K / 8))))):=(turn_set w7 w4.heap.size 2 _).trans (turn_set _ w4.heap.size 4 _)
    exact ⟨a2',d2',rfl,K7,by simpa using K8,by simpa using K9,turn_blk T89 R7 (by omega),P7.kept T89 (fun j s=>.inr (by subst s;exact ⟨_,K7⟩)),((turn_below b6).trans ⟨hgr.os,hgr.tape,hgr.output,hgr.size,fun j hj hs=>hgr.block j hj (fun e=>hs ((O6.s.lt j e.symm).1))⟩).trans (T89.mono (fun j s=>by omega))⟩)
   clear b6 O6
   go_wp2_with (first | (at_builtin;refine wpList_append_own _ rfl _ _ 29 rfl w3.heap.size 3 iI (.int .i64 0) 1 8 Tryz.underlying29 hiI hz0iI hz1iI hz2iI rfl (by decide) (.slice a2 L.slots.length d2) L.slots.length (L.slots.flatMap clI) rfl HOW.out ⟨w5.heap.size,0,none⟩ 1 1 (clI (wrap64 (L.ram+65536))) rfl rfl HNW.out (by intro u hu;simp [clI] at hu;subst hu;rfl) (by unfold maxLen;omega) (by omega) (by omega) ?_;intro v' w7 hown hgr _;obtain ⟨a2',d2',rfl,K7,K8,K9,R9,P9,T9⟩:=HL7.out v' w7 hown hgr;have HE9:=hide (And.intro R9 (And.intro P9 T9));clear hown hgr HOW HNW HL7 p0 p1 p2 p3 p4 p5 f0 f1 f2 f3 f4 f5 r0 r1 r2 r3 r4 r5 e0 e1 e2 e3 e4 e5;obtain ⟨⟨_,_,p2,_,_,_⟩,_,_,f2,_,_,_⟩:=K7.fr6;obtain ⟨⟨_,_,_,_,p4,_⟩,_,_,_,_,f4,_⟩:=K8.fr6;obtain ⟨⟨s0,s1,s2,s3,s4,s5⟩,_⟩:=K9.fr6;obtain ⟨⟨r0,r1,r2,r3,r4,r5⟩,e0,e1,e2,e3,e4,e5⟩:=R9.fr6;clear K7 K8 K9 R9 P9 T9) | rw [← HW5.out])
   go_region
   all_goals
    go_wp2
    refine lo_end HE9.out.1 _ _ _ _ _ _ _ _ rfl rfl ?_
    have hn:=HNX.out
    subst hn
    have hq:=HF.out _ HE9.out.2.2 HE9.out.2.1 (HLB.out.r.slot (wrap_wfi _)) ⟨HLV.out.1,HLV.out.2.1,wrap_wfi _⟩
    simp only [List.length_append,List.length_singleton] at hq
    exact hq _ _ _ _ _ _
  ·have h2':K % 8=2→¬ K / 8 % 2=1:=fun e1 e2=>h2 ⟨e1,e2⟩
   clear h2
   by_cases h2:K % 8=2
   ·have h22:=h2' h2
    clear h2'
    go_wp2_with (rw [← HW5.out])
    go_region
    all_goals
     go_wp2
     refine lo_end HO5.out.2.2 _ _ _ _ _ _ _ _ rfl rfl ?_
     have hn:=HNX.out
     subst hn
     exact HF.out _ (Turn.refl _ _) HO5.out.1.pp HLB.out.r HLV.out _ _ _ _ _ _
   ·clear h2'
    go_wp2_with (rw [← HW5.out])
    go_region
    all_goals
     go_wp2
     refine lo_end HO5.out.2.2 _ _ _ _ _ _ _ _ rfl rfl ?_
     have hn:=HNX.out
     subst hn
     exact HF.out _ (Turn.refl _ _) HO5.out.1.pp HLB.out.r HLV.out _ _ _ _ _ _
end Go.Proofs.YtngdgogjlpjjpadGreat
