import Derived.Test.YtngdgogjlpjjpadGreatP20
import Derived.Test.YtngdgogjlpjjpadGreatP27
import Derived.Test.YtngdgogjlpjjpadGreatP32
namespace Go.Proofs.YtngdgogjlpjjpadGreat
open Go.RowKit Classical
set_option linter.unusedVariables false
set_option linter.unusedSimpArgs false
set_option maxRecDepth 100000
def lenV:Value→Nat
 | .slice _ n _=>n
 | _=>0
theorem dmr_dor {P:PMod} {i:Nat} (h:DmR i P) (nm:ByteArray) (hn:nm.size≤3):DoR { P with nm:=nm }:=
 (show DnR { P with nm:=nm } from ⟨hn,⟨h.t.1.2,h.t.2⟩,h.b,h.d,h.s,h.r,by show P.ss.length≤3∧∀ s ∈ P.ss,s.size≤6;rw [h.i];simp,h.e⟩).dor
theorem MO.ren {W:World} {base:Nat} {P:PMod} {M:Ma} (h:MO W base P M) (nm:ByteArray):MO W base { P with nm:=nm } M:=⟨h.t,h.b,h.bls,h.d,h.r,h.i,h.e,h.tb,h.tr,h.br⟩
set_option maxHeartbeats 8000000 in
theorem l5Mods_fn (zs:List Int) (hz:∀ j,0≤zs.getD j 0∧zs.getD j 0≤255) (k:Nat) (w:World) (r:Nat) (a:Option Addr) (n c:Nat) (h:Dst w w r a n c zs k):
 Calls Tryz.prog 52 #[.pointer (some ⟨r,0,none⟩)] w (MqP w r a n c zs):=by
 obtain ⟨K,E1,z0,z1⟩:=draw_of hz k
 obtain ⟨⟨Ps,k1⟩,⟨l1,l3,hD⟩,hM⟩:=l4Modules_fn zs hz (k+1)
 dsimp only at l1 l3 hD hM
 obtain ⟨iM,hiM,hz0iM,hz1iM,hz2iM⟩:=info_parts infoMd
 have HZ:=hide hz
 have HM:=hide hM
 have m16:K.tmod 16=K % 16:=Int.tmod_eq_emod_of_nonneg z0
 have m32:K.tmod 32=K % 32:=Int.tmod_eq_emod_of_nonneg z0
 have H0:=hide h
 clear hz hM h
 go_enter Tryz.func52,Tryz.ntmps52
 go_wp2_with fail
 refine (H0.out.next K E1).mono ?_
 rintro e w1 ⟨rfl,D1,_⟩
 have CC:=hide (HM.out w1 r a n c D1.fresh)
 have HD1:=hide D1
 clear H0 D1 E1 HM
 go_wp2_with fail
 refine CC.out.mono ?_
 rintro e w2 ⟨g,cap,L,rfl,S,hL⟩
 have hm:L.length=Ps.length:=by have:=congrArg List.length hL;rw [List.length_map] at this;exact this
 have hP:∀ (i:Nat) (x:PMod × Ma),L[i]?=some x→DnR x.1:=fun i x hx=>by
  refine hD x.1 ?_
  rw [← hL]
  exact List.mem_map.2 ⟨x,List.mem_of_getElem? hx,rfl⟩
 obtain ⟨x,L',rfl⟩:∃ x L',L=x :: L':=by
  cases L with
  | nil=>simp at hm;omega
  | cons x L'=>exact ⟨x,L',rfl⟩
 have HP:=hide hP
 have HS:=hide S
 have HL5:=hide (show (x :: L').length≤5 by omega)
 have HQ:=hide (Mq.of HD1.out S hP (by omega))
 clear hL hP S hD CC
 have HL:=hide hm
 generalize Ps.length=m at *
 clear hm
 obtain ⟨⟨c0,c1,c2,c3,c4,c5,c6,c7⟩,f0,f1,f2,f3,f4,f5,f6,f7⟩:=og_first8 HS.out.o
 by_cases hA:K % 16=15
 ·have n14:¬ K % 32=14:=by omega
  have n13:¬ K % 32=13:=by omega
  have n12:¬ K % 32=12:=by omega
  obtain ⟨⟨P',k2⟩,Y,SU⟩:=l4Spoil_u zs HZ.out k1 x.1 (HP.out 0 x rfl)
  have CS:=hide (SU (spU w2 x) w1 w2 r a n c x.2 HS.out.d (HS.out.m 0 x rfl).1 (HS.out.m 0 x rfl).2 (fun j hj=>.inl hj) (spU_ru w2 x))
  have HY:=hide Y
  clear SU Y
  go_wp2_with fail
  refine CS.out.mono ?_
  rintro e w4 ⟨⟨M',rfl,D4,mo4,ds4⟩,T4⟩
  have o4:=HS.out.row (x:=x) rfl T4
  obtain ⟨⟨p0,p1,p2,p3,p4,p5,p6,p7⟩,q0,q1,q2,q3,q4,q5,q6,q7⟩:=og_first8 o4
  have HE:=hide (Mq.spoilt (y:=(P',M')) HD1.out HS.out HL.out HP.out HL5.out D4 T4 mo4 HY.out)
  clear o4 D4 T4 mo4 ds4 CS c0 c1 c2 c3 c4 c5 c6 c7 f0 f1 f2 f3 f4 f5 f6 f7 HS HQ HP
  unfold modV
  go_wp2
  go_ret
  exact ⟨_,_,_,rfl,HE.out⟩
 ·by_cases hB:K % 32=14
  ·have n13:¬ K % 32=13:=by omega
   have n12:¬ K % 32=12:=by omega
   have HMA:=hide (HQ.out.below (al_below w2 (.cells (clM x).toArray 49)))
   have HOW:=hide (show (w2.alloc (.cells (clM x).toArray 49)).ownsRow w.heap.size 49 8 (.slice (some ⟨g,0,none⟩) m cap) m ((x :: L').flatMap clM) by have:=HMA.out.o;unfold OG at this;rw [HL.out] at this;exact this)
   have HNW:=hide (cells_new w2 _ 49 (clM x) rfl)
   have HSZ:=hide HMA.out.d.sz
   go_wp2_with (at_builtin;refine wpList_append_own _ rfl _ _ 23 rfl w.heap.size 49 iM _ 8 _ Tryz.underlying23 hiM hz0iM hz1iM hz2iM rfl (by decide) (.slice (some ⟨g,0,none⟩) m cap) m ((x :: L').flatMap clM) rfl HOW.out ⟨w2.heap.size,0,none⟩ 1 1 (clM x) rfl rfl HNW.out (by intro u hu;simp [clM] at hu;rcases hu with rfl | rfl | rfl | rfl | rfl | rfl | rfl | rfl <;> rfl) (by unfold maxLen;omega) (by omega) HSZ.out ?_;intro v' w4 hown hgr _)
   have HE:=hide (Mq.push (W:=w2) (x:=x) HMA.out (HMA.out.m 0 x rfl).1 (HMA.out.m 0 x rfl).2 (by have:=HL.out;omega) (by rw [HL.out];exact hown) hgr)
   clear HMA HOW HNW HSZ hown hgr HS HQ HP
   go_wp2
   go_ret
   exact ⟨_,_,_,rfl,HE.out⟩
  ·by_cases hC:K % 32=13
   ·have HE:=hide HQ.out.nil
    clear HS HQ HP
    go_wp2
    go_ret
    exact ⟨_,_,_,rfl,HE.out⟩
   ·by_cases hE:K % 32=12
    ·have d64:IntKind.i64.wrap (K.tdiv 64)=K / 64:=by rw [Int.tdiv_eq_ediv_of_nonneg z0,wr62 _ (by omega) (by omega)]
     have m2:(K / 64).tmod 2=K / 64 % 2:=Int.tmod_eq_emod_of_nonneg (by omega)
     obtain ⟨N,hN⟩:∃ N:Nat,(N:Int)=4+K / 64 % 2:=⟨(4+K / 64 % 2).toNat,by omega⟩
     have hN5:N≤5:=by omega
     have hA':(K % 16 == 15)=false:=by simp [hA]
     clear c0 c1 c2 c3 c4 c5 c6 c7 f0 f1 f2 f3 f4 f5 f6 f7 HS HP
     go_wp2
     go_loopw [4] (fun o wr=>∃ (L:List (PMod × Ma)) (kk:Nat),L.length≤N∧Mq w wr r a n c zs kk o L) (fun o _=>6 - lenV o)
     case atStart=>exact ⟨_,_,by have:=HL.out;omega,HQ.out⟩
     case round=>
      obtain ⟨L,kk,hLN,HM⟩:=hrel
      generalize wr=wr1 at *
      clear HQ HL HL5 HD1
      obtain ⟨av,cv,rfl⟩:=og_shape HM.o
      by_cases hlt:L.length<N
      ·have hlt':(L.length:Int)<4+K / 64 % 2:=by omega
       have hL4:L.length≤4:=by omega
       obtain ⟨⟨P,k'⟩,hd,hF⟩:=l4Module_fn zs HZ.out 3 (by omega) kk
       dsimp only at hd hF
       have CC:Hid (Calls Tryz.prog 137 #[.pointer (some ⟨r,0,none⟩),.int .i64 3] wr1 _):=hF wr1 r a n c HM.d.fresh
       have HMh:=hide HM
       have Hd:=hide hd
       clear HM hF hd
       go_wp2_with fail
       refine CC.out.mono ?_
       rintro e wa ⟨M,rfl,da,mo,ds⟩
       have QA:=HMh.out.turn da.t (HMh.out.d.trans da)
       have mo':=mo.mono HMh.out.d.sz
       obtain ⟨x8,hx8⟩:∃ x8:Int,x8=97+(L.length:Int):=⟨_,rfl⟩
       have ew:IntKind.u8.wrap (97+(L.length:Int))=x8:=by rw [hx8];exact u8_small _ (by omega) (by omega)
       have HX:=hide (And.intro QA mo')
       clear QA mo' da mo ds CC
       unfold modV
       have hcv:(convert 22 9 (.slice (some ⟨wa.heap.size+1,0,none⟩) 1 1)).run Tryz.prog ((wa.alloc (.cells #[.string P.nm,.slice M.a1 P.tz.length M.c1,.slice M.a2 M.bl.length M.c2,.slice M.a3 P.dz.length M.c3,.int .i64 P.bss,.slice M.a5 P.rz.length M.c5,.slice M.a6 P.ss.length M.c6,.slice M.a7 P.es.length M.c7] 49)).alloc (.cells #[.int .u8 x8] 5))=.ok (.string (strOf [x8])) ((wa.alloc (.cells #[.string P.nm,.slice M.a1 P.tz.length M.c1,.slice M.a2 M.bl.length M.c2,.slice M.a3 P.dz.length M.c3,.int .i64 P.bss,.slice M.a5 P.rz.length M.c5,.slice M.a6 P.ss.length M.c6,.slice M.a7 P.es.length M.c7] 49)).alloc (.cells #[.int .u8 x8] 5)):=by
        have b:=bs_one (wa.alloc (.cells #[.string P.nm,.slice M.a1 P.tz.length M.c1,.slice M.a2 M.bl.length M.c2,.slice M.a3 P.dz.length M.c3,.int .i64 P.bss,.slice M.a5 P.rz.length M.c5,.slice M.a6 P.ss.length M.c6,.slice M.a7 P.es.length M.c7] 49)) x8 (by omega)
        simp only [World.size_alloc] at b
        exact run_text _ _ _ _ _ b
       have hss:(strOf [x8]).size=1:=strOf_size _
       have hn1:¬ 9223372036854775807<1+(strOf [x8]).size:=by omega
       have hn2:¬ 9223372036854775807<(⟨#[110]⟩:ByteArray).size+(strOf [x8]).size:=by rw [hss];decide
       have hd2:((⟨#[110]⟩:ByteArray)++strOf [x8]).size≤3:=by rw [ByteArray.size_append,hss];decide
       generalize strOf [x8]=sx at *
       have HBW:Hid (Below wa.heap.size wa (((wa.alloc (.cells #[.string ((⟨#[110]⟩:ByteArray)++sx),.slice M.a1 P.tz.length M.c1,.slice M.a2 M.bl.length M.c2,.slice M.a3 P.dz.length M.c3,.int .i64 P.bss,.slice M.a5 P.rz.length M.c5,.slice M.a6 P.ss.length M.c6,.slice M.a7 P.es.length M.c7] 49)).alloc (.cells #[.int .u8 x8] 5)).alloc (.cells (clM ({ P with nm:=(⟨#[110]⟩:ByteArray)++sx },M)).toArray 49))):=hide ((((Below.refl _ _).alloc (Nat.le_refl _) _).alloc (by simp) _).alloc (by simp;omega) _)
       have HQX:=hide (HX.out.1.below HBW.out)
       have HMX:=hide ((HX.out.2.below HBW.out).ren ((⟨#[110]⟩:ByteArray)++sx))
       have HDX:=hide (dmr_dor Hd.out ((⟨#[110]⟩:ByteArray)++sx) hd2)
       have HOW:=hide HQX.out.o
       have HNW:=hide (cells_at ((wa.alloc (.cells #[.string ((⟨#[110]⟩:ByteArray)++sx),.slice M.a1 P.tz.length M.c1,.slice M.a2 M.bl.length M.c2,.slice M.a3 P.dz.length M.c3,.int .i64 P.bss,.slice M.a5 P.rz.length M.c5,.slice M.a6 P.ss.length M.c6,.slice M.a7 P.es.length M.c7] 49)).alloc (.cells #[.int .u8 x8] 5)) (wa.heap.size+1+1) _ 49 (clM ({ P with nm:=(⟨#[110]⟩:ByteArray)++sx },M)) rfl (by simp))
       have HSZ:=hide HQX.out.d.sz
       have Hx8:=hide hx8
       clear hss hd2 HX hx8
       go_wp2_with (at_builtin;refine wpList_append_own _ rfl _ _ 23 rfl w.heap.size 49 iM _ 8 _ Tryz.underlying23 hiM hz0iM hz1iM hz2iM rfl (by decide) (.slice av L.length cv) L.length (L.flatMap clM) rfl HOW.out ⟨wa.heap.size+1+1,0,none⟩ 1 1 (clM ({ P with nm:=(⟨#[110]⟩:ByteArray)++sx },M)) rfl rfl HNW.out (by intro u hu;simp [clM] at hu;rcases hu with rfl | rfl | rfl | rfl | rfl | rfl | rfl | rfl <;> rfl) (by unfold maxLen;omega) (by omega) HSZ.out ?_;intro v' w4 hown hgr _)
       have HE:=hide (Mq.push (W:=wa) (x:=({ P with nm:=(⟨#[110]⟩:ByteArray)++sx },M)) HQX.out HMX.out HDX.out (by omega) hown hgr)
       have HV:=hide (show lenV v'=L.length+1 by obtain ⟨av2,cv2,e⟩:=og_shape HE.out.o;rw [e];simp [lenV])
       clear HQX HMX HOW HNW HSZ HBW hown hgr hcv hn1 hn2
       go_wp2
       go_roundw
       case rel=>exact ⟨_,_,by simp;omega,HE.out⟩
       case measure=>
        have h1:=HV.out
        simp [lenV] at h1 ⊢
        omega
      ·have hlt':¬ (L.length:Int)<4+K / 64 % 2:=by omega
       have HE:=hide HM
       clear HM
       go_wp2
       go_ret
       exact ⟨_,_,_,rfl,HE.out⟩
    ·have HE:=hide HQ.out
     clear HS HQ HP
     go_wp2
     go_ret
     exact ⟨_,_,_,rfl,HE.out⟩
end Go.Proofs.YtngdgogjlpjjpadGreat
