import Derived.Test.YtngdgogjlpjjpadGreatP39
namespace Go.Proofs.YtngdgogjlpjjpadGreat
open Go.RowKit
set_option linter.unusedVariables false
set_option linter.unusedSimpArgs false
set_option maxRecDepth 100000
theorem u8_small (x:Int) (h0:0≤x) (h1:x≤255):IntKind.u8.wrap x=x:=by
 unfold IntKind.wrap
 simp [IntKind.bits,IntKind.signed]
 omega
def dtL (zs:List Int) (k j:Nat):List Int:=(List.range j).map fun q=>zs.getD (k+q) 0 % 32
def exL (j:Nat):List Ex:=(List.range j).map fun q=>(exN q,(q:Int) - 1,0)
def bkC (C:Nat→List Int × Nat) (q:Nat):List (List Int) × Nat:=([(C q).1],(C q).2)
theorem dtL_succ (zs:List Int) (k j:Nat):dtL zs k (j+1)=dtL zs k j++[zs.getD (k+j) 0 % 32]:=by simp [dtL,List.range_succ]
theorem dtL_len (zs:List Int) (k j:Nat):(dtL zs k j).length=j:=by simp [dtL]
theorem exL_succ (j:Nat):exL (j+1)=exL j++[(exN j,(j:Int) - 1,0)]:=by simp [exL,List.range_succ]
theorem exL_len (j:Nat):(exL j).length=j:=by simp [exL]
theorem bk_succ (C:Nat→List Int × Nat) (k j:Nat):(sq (bkC C) [] k (j+1)).1=(sq (bkC C) [] k j).1++[(C (sq (bkC C) [] k j).2).1]∧(sq (bkC C) [] k (j+1)).2=(C (sq (bkC C) [] k j).2).2:=⟨rfl,rfl⟩
theorem bk_len (C:Nat→List Int × Nat) (k:Nat):∀ j,(sq (bkC C) [] k j).1.length=j
 | 0=>rfl
 | j+1=>by rw [(bk_succ C k j).1,List.length_append,bk_len C k j];rfl
theorem mr_bl {w W:World} {r:Nat} {a:Option Addr} {n c:Nat} {zs:List Int} {k g q:Nat} {P:PMod} {M:Ma} (h:MR w W r a n c zs k g q P M):M.bl.length=P.bl.length:=by rw [← h.m.o.bls,List.length_map]
set_option maxHeartbeats 8000000 in
theorem l4Module_walk (zs:List Int) (hz:∀ j,0≤zs.getD j 0∧zs.getD j 0≤255) (k i:Nat) (hi:i≤3) (C:Nat→List Int × Nat) (HC:Hid (∀ q,CodeFn zs q (C q).1 (C q).2)) (K V:Int) (E1:Hid (zs.getD k 0=K)) (E2:Hid (zs.getD (k+1) 0=V)) (z0:0≤K) (z1:K≤255) (y0:0≤V) (y1:V≤255) (T:List Int) (k1:Nat) (HT:Hid (C (k+2)=(T,k1))) (mb md k2:Nat) (hmb:(mb:Int)=K % 4) (hmd:(md:Int)=K / 4 % 5 * 4) (B:List (List Int)) (HB:Hid (sq (bkC C) [] k1 mb=(B,k2))) (nm:ByteArray) (HNM:Hid (nmN i=nm)) (rz:List Int) (hrz:Hid (rz=if 4≤md∧V % 2=1 then [0] else [])):
 ModFn zs k i ⟨nm,T,B,dtL zs k2 md,V % 64,rz,[],exL (mb+1)⟩ (k2+md):=by
 intro w r a n c h
 have hB0:Below w.heap.size w (w.alloc (.cells #[.string ⟨#[]⟩,.slice none 0 0,.slice none 0 0,.slice none 0 0,.int .i64 0,.slice none 0 0,.slice none 0 0,.slice none 0 0] 49)):=(Below.refl _ _).alloc (Nat.le_refl _) _
 have D0:=h.below hB0
 have R0:Blk _ w.heap.size z8 49:=Blk.new w #[.string ⟨#[]⟩,.slice none 0 0,.slice none 0 0,.slice none 0 0,.int .i64 0,.slice none 0 0,.slice none 0 0,.slice none 0 0] 49
 have hlt:=h.lt
 have HZ:=hide hz
 obtain ⟨iB,hiB,hz0iB,hz1iB,hz2iB⟩:=info_parts infoB
 obtain ⟨i8,hi8,hz0i8,hz1i8,hz2i8⟩:=info_parts info8
 obtain ⟨iI,hiI,hz0iI,hz1iI,hz2iI⟩:=info_parts infoI
 obtain ⟨iX,hiX,hz0iX,hz1iX,hz2iX⟩:=info_parts infoX
 clear h hB0 hz
 go_enter Tryz.func137,Tryz.ntmps137
 go_wp2_with fail
 refine (D0.next K E1).mono ?_
 rintro e w1 ⟨rfl,D1,t1⟩
 have R1:=turn_blk t1 R0 (by omega)
 clear D0 R0 t1
 go_wp2_with fail
 refine (D1.next V E2).mono ?_
 rintro e w2 ⟨rfl,D2,t2⟩
 have R2:=turn_blk t2 R1 (by omega)
 clear D1 R1 t2
 go_wp2_with fail
 refine (l4Name_any i hi _).mono ?_
 rintro e w3 ⟨rfl,hb3⟩
 rw [HNM.out]
 have D3:=D2.below hb3
 have R3:=R2.below hb3
 clear D2 R2 hb3
 have CC:=HC.out (k+2)
 rw [HT.out] at CC
 have CC':=hide (CC w3 r a n c (by have:=D3.fresh;rw [Nat.add_assoc] at this;exact this))
 clear CC
 go_wp2_with fail
 refine CC'.out.mono ?_
 rintro e w4 ⟨v4,rfl,L4⟩
 obtain ⟨a1,c1,rfl⟩:=og_shape L4.o
 have hs3:=D3.sz
 have R4:=turn_blk L4.d.t R3 (by have:=D3.lt;omega)
 have HM0:=hide (mr_new (D3.trans L4.d) (L4.o.mono hs3) R4 nm (V % 64))
 clear CC' L4 R3 D3 R4 hs3 hlt
 go_wp2
 go_loopw [8] (fun i wr=>∃ (j:Nat) (M:Ma),j≤mb∧i=.int .i64 j∧MR w wr r a n c zs (sq (bkC C) [] k1 j).2 (w4.heap.size+5) w.heap.size ⟨nm,T,(sq (bkC C) [] k1 j).1,[],V % 64,[],[],[]⟩ M) (fun i _=>mb - (intOf i).toNat)
 case atStart=>exact ⟨0,_,Nat.zero_le _,rfl,HM0.out⟩
 case round=>
  obtain ⟨j,M,hj,rfl,HM⟩:=hrel
  generalize wr=wr1 at *
  clear HM0
  by_cases hlt:j<mb
  ·have hlt':(j:Int)<K % 4:=by omega
   obtain ⟨p2,f2⟩:=HM.two 2 (.slice M.a2 M.bl.length M.c2) rfl
   have hbl:=mr_bl HM
   dsimp only at hbl
   rw [bk_len] at hbl
   have hb3:M.bl.length≤3:=by omega
   clear hbl
   have hszw:=HM.m.d.sz
   have HM:=hide HM
   have EK:=hide (bk_succ C k1 j)
   have HCk:=hide (HC.out (sq (bkC C) [] k1 j).2)
   generalize (sq (bkC C) [] k1 j).1=Bj at *
   generalize (sq (bkC C) [] k1 j).2=kj at *
   obtain ⟨x,k',hx⟩:∃ x k',C kj=(x,k'):=⟨_,_,rfl⟩
   rw [hx] at EK HCk
   dsimp only at HCk
   have EK1:=hide EK.out.1
   have EK2:=hide EK.out.2
   clear hx EK
   go_wp2_with fail
   go_region_law (first
    | (refine step_append_lies _ rfl _ _ 45 rfl w.heap.size 29 iB (.slice none 0 0) 1 24 Tryz.underlying45 hiB hz0iB hz1iB hz2iB rfl (by decide) (.slice M.a2 M.bl.length M.c2) M.bl.length (M.bl.map fun B=>Value.slice B.1 B.2.1 B.2.2.1) rfl HOW.out ⟨wa.heap.size,0,none⟩ 1 1 [.slice A x.length Cp] rfl rfl HNW.out (by intro u hu;simp [clI,clT,clX] at hu;first | (subst hu;rfl) | (rcases hu with rfl | rfl | rfl <;> rfl)) (by decide) (by unfold maxLen;omega) (by omega) HSZ.out _ rfl ?_;intro g4 c4 w4 hown hgr hat hlt4;obtain ⟨p4,f4⟩:=HMA.out.cell4 HOW.out hgr (by decide) 2 (u:=.slice M.a2 M.bl.length M.c2) rfl)
    | (go_simp;go_at_call 198;refine (MR.code (w:=w) (g:=w4.heap.size+5) (q:=w.heap.size) (P:=⟨nm,T,Bj,[],V % 64,[],[],[]⟩) (M:=M) (by first | exact HM.out | exact HM.out.drew) HCk.out).mono ?_;rintro e wa ⟨A,Cp,rfl,ox,MA⟩;have HOX:=hide (And.intro ox MA);obtain ⟨pa,fa⟩:=MA.two 2 (.slice M.a2 M.bl.length M.c2) rfl;have HMA:=hide (MA.below (al_below wa (.cells #[.slice A x.length Cp] 29)));obtain ⟨pb,fb⟩:=HMA.out.two 2 (.slice M.a2 M.bl.length M.c2) rfl;have HOW:=hide HMA.out.m.o.b.head;have HNW:=hide (cells_new wa _ 29 [.slice A x.length Cp] rfl);have HSZ:=hide HMA.out.m.d.sz;clear ox MA))
   all_goals
    have HF:=hide (MR.bank HM.out HOX.out.2 HOX.out.1 hown hgr)
    clear p2 f2 pa fa pb fb HOX HMA HOW HNW HSZ hown hgr hat hlt4 HM HCk
    go_wp2
    go_roundw
    case rel=>exact ⟨j+1,_,by omega,by go_num,by rw [EK1.out,EK2.out];exact HF.out⟩
    case measure=>simp [intOf];omega
  ·have hlt':¬ (j:Int)<K % 4:=by omega
   have ejm:j=mb:=by omega
   rw [ejm,HB.out] at HM
   dsimp only at HM
   have hBl:B.length=mb:=by have:=bk_len C k1 mb;rw [HB.out] at this;exact this
   have HBL:=hide hBl
   have HM1:=hide HM
   clear hlt hj HC HT HB ejm hBl HM
   go_wp2
   go_loopw [9] (fun i wr=>∃ (j:Nat) (M:Ma),j≤md∧i=.int .i64 j∧MR w wr r a n c zs (k2+j) (w4.heap.size+5) w.heap.size ⟨nm,T,B,dtL zs k2 j,V % 64,[],[],[]⟩ M) (fun i _=>md - (intOf i).toNat)
   case atStart=>exact ⟨0,_,Nat.zero_le _,rfl,HM1.out⟩
   case round=>
    obtain ⟨j2,M,hj2,rfl,HM⟩:=hrel
    generalize wr=wr2 at *
    clear HM1
    by_cases hlt:j2<md
    ·have hlt':(j2:Int)<K / 4 % 5 * 4:=by omega
     obtain ⟨x,EX,x0,x1⟩:=draw_of HZ.out (k2+j2)
     have e8:IntKind.u8.wrap (x.tmod 32)=x % 32:=by rw [Int.tmod_eq_emod_of_nonneg x0];exact u8_small _ (by omega) (by omega)
     have HX8:=hide (show 0≤IntKind.u8.wrap (x.tmod 32)∧IntKind.u8.wrap (x.tmod 32)≤255 by rw [e8];omega)
     have ES:=hide (show dtL zs k2 (j2+1)=dtL zs k2 j2++[IntKind.u8.wrap (x.tmod 32)] by rw [e8,dtL_succ,EX.out])
     clear e8
     have hdl:=dtL_len zs k2 j2
     generalize dtL zs k2 j2=dz at *
     obtain ⟨p2,f2⟩:=HM.two 3 (.slice M.a3 dz.length M.c3) rfl
     have hb3:dz.length≤16:=by omega
     clear hdl
     have hszw:=HM.m.d.sz
     have HM:=hide HM
     go_wp2_with fail
     go_region_law (first
      | (refine step_append_lies _ rfl _ _ 22 rfl w.heap.size 5 i8 (.int .u8 0) 1 1 Tryz.underlying22 hi8 hz0i8 hz1i8 hz2i8 rfl (by decide) (.slice M.a3 dz.length M.c3) dz.length (dz.map (Value.int .u8)) rfl HOW.out ⟨wa.heap.size,0,none⟩ 1 1 [.int .u8 (IntKind.u8.wrap (x.tmod 32))] rfl rfl HNW.out (by intro u hu;simp [clI,clT,clX] at hu;first | (subst hu;rfl) | (rcases hu with rfl | rfl | rfl <;> rfl)) (by decide) (by unfold maxLen;omega) (by omega) HSZ.out _ rfl ?_;intro g4 c4 w4 hown hgr hat hlt4;obtain ⟨p4,f4⟩:=HMA.out.cell4 HOW.out hgr (by decide) 3 (u:=.slice M.a3 dz.length M.c3) rfl)
      | (go_simp;go_at_call 51;refine (MR.next (w:=w) (g:=w4.heap.size+5) (q:=w.heap.size) (P:=⟨nm,T,B,dz,V % 64,[],[],[]⟩) (M:=M) (by first | exact HM.out | exact HM.out.drew) x EX).mono ?_;rintro e wa ⟨rfl,MA⟩;obtain ⟨pa,fa⟩:=MA.two 3 (.slice M.a3 dz.length M.c3) rfl;have HMA:=hide (MA.below (al_below wa (.cells #[.int .u8 (IntKind.u8.wrap (x.tmod 32))] 5)));obtain ⟨pb,fb⟩:=HMA.out.two 3 (.slice M.a3 dz.length M.c3) rfl;have HOW:=hide HMA.out.m.o.d.1;have HNW:=hide (cells_new wa _ 5 [.int .u8 (IntKind.u8.wrap (x.tmod 32))] rfl);have HSZ:=hide HMA.out.m.d.sz;clear MA))
     all_goals
      have HF:=hide (MR.data HMA.out HX8.out hown hgr)
      clear p2 f2 pa fa pb fb HMA HOW HNW HSZ hown hgr hat hlt4 HM
      go_wp2
      go_roundw
      case rel=>exact ⟨j2+1,_,by omega,by go_num,by rw [ES.out];exact HF.out⟩
      case measure=>simp [intOf];omega
    ·have hlt':¬ (j2:Int)<K / 4 % 5 * 4:=by omega
     have ejm:j2=md:=by omega
     rw [ejm] at HM
     have hdl:=dtL_len zs k2 md
     clear hlt hj2 ejm
     obtain ⟨dz,hdz⟩:∃ dz,dtL zs k2 md=dz:=⟨_,rfl⟩
     rw [hdz] at HM hdl
     have HDZ:=hide hdz
     clear hdz
     obtain ⟨p2,f2⟩:=HM.two 3 (.slice M.a3 dz.length M.c3) rfl
     obtain ⟨p5,f5⟩:=HM.two 5 (.slice M.a5 0 M.c5) rfl
     have hbl:=mr_bl HM
     dsimp only at hbl
     by_cases hc:4≤md∧V % 2=1
     ·have h4:(4:Int)≤(dz.length:Int):=by omega
      have hv:=hc.2
      have hrz1:=hide (show rz=[]++[0] by rw [hrz.out,if_pos hc];rfl)
      have HMA:=hide (HM.below (al_below wr2 (.cells #[.int .i64 0] 3)))
      have HOW:=hide HMA.out.m.o.r
      have HNW:=hide (cells_new wr2 _ 3 (clI 0) rfl)
      have HSZ:=hide HMA.out.m.d.sz
      clear HM hbl hdl hrz hc
      go_wp2_with (at_builtin;refine wpList_append_lies _ rfl _ _ 29 rfl w.heap.size 3 iI (.int .i64 0) 1 8 Tryz.underlying29 hiI hz0iI hz1iI hz2iI rfl (by decide) (.slice M.a5 0 M.c5) 0 [] rfl HOW.out ⟨wr2.heap.size,0,none⟩ 1 1 (clI 0) rfl rfl HNW.out (by intro u hu;simp [clI] at hu;subst hu;rfl) (by decide) (by unfold maxLen;omega) (by omega) HSZ.out _ rfl ?_;intro g4 c4 w5 hown hgr hat hlt4;obtain ⟨p4,f4⟩:=HMA.out.cell4 HOW.out hgr (by decide) 5 (u:=.slice M.a5 0 M.c5) rfl)
      have HF:=hide (MR.reloc (x:=0) HMA.out hown hgr hat)
      clear HMA HOW HNW HSZ hown hgr hat hlt4 h4 hv p2 f2 p5 f5
      go_wp2
      go_loopw [10] (fun i wr=>∃ (j:Nat) (M:Ma),j≤mb+1∧i=.int .i64 ((j:Int) - 1)∧MR w wr r a n c zs (k2+md) (w4.heap.size+5) w.heap.size ⟨nm,T,B,dz,V % 64,[]++[0],[],exL j⟩ M) (fun i _=>mb+1 - (intOf i+1).toNat)
      case atStart=>exact ⟨0,_,Nat.zero_le _,rfl,HF.out⟩
      case round=>
       obtain ⟨j3,M,hj3,rfl,HM⟩:=hrel
       generalize wr=wr3 at *
       clear HF
       have hbl:=mr_bl HM
       dsimp only at hbl
       rw [HBL.out] at hbl
       have hel:=exL_len j3
       have ES:=hide (exL_succ j3)
       have EE:=hide (show exL j3=exL j3 from rfl)
       obtain ⟨es,hes⟩:∃ es,es=exL j3:=⟨_,rfl⟩
       rw [← hes] at HM hel ES
       have HES:=hide hes
       clear hes EE
       obtain ⟨p2,f2⟩:=HM.two 2 (.slice M.a2 M.bl.length M.c2) rfl
       by_cases hlt:j3<mb+1
       ·have hlt':(j3:Int) - 1<(M.bl.length:Int):=by omega
        have hb3:es.length≤4:=by omega
        have h00:-1≤(j3:Int) - 1:=by omega
        have h01:(j3:Int) - 1≤3:=by omega
        clear hbl hel
        obtain ⟨p7,f7⟩:=HM.two 7 (.slice M.a7 es.length M.c7) rfl
        have hszw:=HM.m.d.sz
        have HM:=hide HM
        have HEX:=hide (fun W=>l4Export_any ((j3:Int) - 1) h00 h01 W)
        rw [show ((j3:Int) - 1+1).toNat=j3 by omega] at HEX
        obtain ⟨xn,hxn⟩:∃ xn,exN j3=xn:=⟨_,rfl⟩
        rw [hxn] at HEX ES
        clear hxn
        go_wp2_with fail
        go_region_law (first
         | (refine step_append_lies _ rfl _ _ 47 rfl w.heap.size 210 iX (.agg #[.string ⟨#[]⟩,.int .i64 0,.int .i64 0]) 3 32 Tryz.underlying47 hiX hz0iX hz1iX hz2iX rfl (by decide) (.slice M.a7 es.length M.c7) es.length (es.flatMap clX) rfl HOW.out ⟨wa.heap.size,0,none⟩ 1 1 (clX (xn,(j3:Int) - 1,0)) rfl rfl HNW.out (by intro u hu;simp [clI,clT,clX] at hu;first | (subst hu;rfl) | (rcases hu with rfl | rfl | rfl <;> rfl)) (by decide) (by unfold maxLen;omega) (by omega) HSZ.out _ rfl ?_;intro g4 c4 w4 hown hgr hat hlt4;obtain ⟨p4,f4⟩:=HMA.out.cell4 HOW.out hgr (by decide) 7 (u:=.slice M.a7 es.length M.c7) rfl)
         | (go_simp;go_at_call 196;refine (HEX.out _).mono ?_;rintro e wa ⟨rfl,hba⟩;have MA:=MR.below (w:=w) (k:=k2+md) (g:=w4.heap.size+5) (q:=w.heap.size) (P:=⟨nm,T,B,dz,V % 64,[]++[0],[],es⟩) (M:=M) (by first | exact HM.out | exact HM.out.drew) hba;obtain ⟨pa,fa⟩:=MA.two 7 (.slice M.a7 es.length M.c7) rfl;have HMA:=hide (MA.below (al_below wa (.cells #[.string xn,.int .i64 ((j3:Int) - 1),.int .i64 0] 210)));obtain ⟨pb,fb⟩:=HMA.out.two 7 (.slice M.a7 es.length M.c7) rfl;have HOW:=hide HMA.out.m.o.e;have HNW:=hide (cells_new wa _ 210 (clX (xn,(j3:Int) - 1,0)) rfl);have HSZ:=hide HMA.out.m.d.sz;clear MA hba))
        all_goals
         have HF:=hide (MR.exp (x:=(xn,(j3:Int) - 1,0)) HMA.out hown hgr)
         clear p2 f2 p7 f7 pa fa pb fb HMA HOW HNW HSZ hown hgr hat hlt4 HM HEX
         go_wp2
         go_roundw
         case rel=>exact ⟨j3+1,_,by omega,by first | go_num | (congr 1;omega),by rw [ES.out];exact HF.out⟩
         case measure=>simp [intOf];omega
       ·have hlt':¬ (j3:Int) - 1<(M.bl.length:Int):=by omega
        have HE1:=hide (show exL (mb+1)=es by rw [HES.out,show j3=mb+1 by omega])
        have hne:=HM.ne
        obtain ⟨b0,b1,b2,b3,b4,b5,b6,b7⟩:=HM.m.box.eight'
        obtain ⟨r0,r1,r2,r3,r4,r5,r6,r7⟩:=z8_cells HM.res
        obtain ⟨s0,s1,s2,s3,s4,s5,s6,s7⟩:=HM.res.froz
        clear hbl hel p2 f2
        have HM:=hide HM
        go_wp2
        refine modl_end HM.out.res rfl _ _ _ _ _ _ _ _ _ _ rfl ?_
        rw [HDZ.out,HE1.out,hrz1.out]
        exact ⟨M,rfl,HM.out.m.d.grow ((turn_st8 wr3 w.heap.size _ _ _ _ _ _ _ _).mono (fun j hj=>by subst hj;exact HM.out.hq)),HM.out.m.o.kept (turn_st8 wr3 w.heap.size _ _ _ _ _ _ _ _) (fun j hj=>.inr (by subst hj;exact ⟨_,HM.out.res⟩)),HM.out.m.ds⟩
     ·have hrz1:=hide (show rz=[] by rw [hrz.out,if_neg hc])
      have HF:=hide HM
      clear HM p5 f5 hbl
      by_cases h4:(4:Int)≤(dz.length:Int)
      ·have hv:¬ V % 2=1:=by omega
       clear hdl hrz hc
       go_wp2
       go_loopw [10] (fun i wr=>∃ (j:Nat) (M:Ma),j≤mb+1∧i=.int .i64 ((j:Int) - 1)∧MR w wr r a n c zs (k2+md) (w4.heap.size+5) w.heap.size ⟨nm,T,B,dz,V % 64,[],[],exL j⟩ M) (fun i _=>mb+1 - (intOf i+1).toNat)
       case atStart=>exact ⟨0,_,Nat.zero_le _,rfl,HF.out⟩
       case round=>
        obtain ⟨j3,M,hj3,rfl,HM⟩:=hrel
        generalize wr=wr3 at *
        clear HF
        have hbl:=mr_bl HM
        dsimp only at hbl
        rw [HBL.out] at hbl
        have hel:=exL_len j3
        have ES:=hide (exL_succ j3)
        have EE:=hide (show exL j3=exL j3 from rfl)
        obtain ⟨es,hes⟩:∃ es,es=exL j3:=⟨_,rfl⟩
        rw [← hes] at HM hel ES
        have HES:=hide hes
        clear hes EE
        obtain ⟨p2,f2⟩:=HM.two 2 (.slice M.a2 M.bl.length M.c2) rfl
        by_cases hlt:j3<mb+1
        ·have hlt':(j3:Int) - 1<(M.bl.length:Int):=by omega
         have hb3:es.length≤4:=by omega
         have h00:-1≤(j3:Int) - 1:=by omega
         have h01:(j3:Int) - 1≤3:=by omega
         clear hbl hel
         obtain ⟨p7,f7⟩:=HM.two 7 (.slice M.a7 es.length M.c7) rfl
         have hszw:=HM.m.d.sz
         have HM:=hide HM
         have HEX:=hide (fun W=>l4Export_any ((j3:Int) - 1) h00 h01 W)
         rw [show ((j3:Int) - 1+1).toNat=j3 by omega] at HEX
         obtain ⟨xn,hxn⟩:∃ xn,exN j3=xn:=⟨_,rfl⟩
         rw [hxn] at HEX ES
         clear hxn
         go_wp2_with fail
         go_region_law (first
          | (refine step_append_lies _ rfl _ _ 47 rfl w.heap.size 210 iX (.agg #[.string ⟨#[]⟩,.int .i64 0,.int .i64 0]) 3 32 Tryz.underlying47 hiX hz0iX hz1iX hz2iX rfl (by decide) (.slice M.a7 es.length M.c7) es.length (es.flatMap clX) rfl HOW.out ⟨wa.heap.size,0,none⟩ 1 1 (clX (xn,(j3:Int) - 1,0)) rfl rfl HNW.out (by intro u hu;simp [clI,clT,clX] at hu;first | (subst hu;rfl) | (rcases hu with rfl | rfl | rfl <;> rfl)) (by decide) (by unfold maxLen;omega) (by omega) HSZ.out _ rfl ?_;intro g4 c4 w4 hown hgr hat hlt4;obtain ⟨p4,f4⟩:=HMA.out.cell4 HOW.out hgr (by decide) 7 (u:=.slice M.a7 es.length M.c7) rfl)
          | (go_simp;go_at_call 196;refine (HEX.out _).mono ?_;rintro e wa ⟨rfl,hba⟩;have MA:=MR.below (w:=w) (k:=k2+md) (g:=w4.heap.size+5) (q:=w.heap.size) (P:=⟨nm,T,B,dz,V % 64,[],[],es⟩) (M:=M) (by first | exact HM.out | exact HM.out.drew) hba;obtain ⟨pa,fa⟩:=MA.two 7 (.slice M.a7 es.length M.c7) rfl;have HMA:=hide (MA.below (al_below wa (.cells #[.string xn,.int .i64 ((j3:Int) - 1),.int .i64 0] 210)));obtain ⟨pb,fb⟩:=HMA.out.two 7 (.slice M.a7 es.length M.c7) rfl;have HOW:=hide HMA.out.m.o.e;have HNW:=hide (cells_new wa _ 210 (clX (xn,(j3:Int) - 1,0)) rfl);have HSZ:=hide HMA.out.m.d.sz;clear MA hba))
         all_goals
          have HF:=hide (MR.exp (x:=(xn,(j3:Int) - 1,0)) HMA.out hown hgr)
          clear p2 f2 p7 f7 pa fa pb fb HMA HOW HNW HSZ hown hgr hat hlt4 HM HEX
          go_wp2
          go_roundw
          case rel=>exact ⟨j3+1,_,by omega,by first | go_num | (congr 1;omega),by rw [ES.out];exact HF.out⟩
          case measure=>simp [intOf];omega
        ·have hlt':¬ (j3:Int) - 1<(M.bl.length:Int):=by omega
         have HE1:=hide (show exL (mb+1)=es by rw [HES.out,show j3=mb+1 by omega])
         have hne:=HM.ne
         obtain ⟨b0,b1,b2,b3,b4,b5,b6,b7⟩:=HM.m.box.eight'
         obtain ⟨r0,r1,r2,r3,r4,r5,r6,r7⟩:=z8_cells HM.res
         obtain ⟨s0,s1,s2,s3,s4,s5,s6,s7⟩:=HM.res.froz
         clear hbl hel p2 f2
         have HM:=hide HM
         go_wp2
         refine modl_end HM.out.res rfl _ _ _ _ _ _ _ _ _ _ rfl ?_
         rw [HDZ.out,HE1.out,hrz1.out]
         exact ⟨M,rfl,HM.out.m.d.grow ((turn_st8 wr3 w.heap.size _ _ _ _ _ _ _ _).mono (fun j hj=>by subst hj;exact HM.out.hq)),HM.out.m.o.kept (turn_st8 wr3 w.heap.size _ _ _ _ _ _ _ _) (fun j hj=>.inr (by subst hj;exact ⟨_,HM.out.res⟩)),HM.out.m.ds⟩
      ·clear hdl hrz hc
       go_wp2
       go_loopw [10] (fun i wr=>∃ (j:Nat) (M:Ma),j≤mb+1∧i=.int .i64 ((j:Int) - 1)∧MR w wr r a n c zs (k2+md) (w4.heap.size+5) w.heap.size ⟨nm,T,B,dz,V % 64,[],[],exL j⟩ M) (fun i _=>mb+1 - (intOf i+1).toNat)
       case atStart=>exact ⟨0,_,Nat.zero_le _,rfl,HF.out⟩
       case round=>
        obtain ⟨j3,M,hj3,rfl,HM⟩:=hrel
        generalize wr=wr3 at *
        clear HF
        have hbl:=mr_bl HM
        dsimp only at hbl
        rw [HBL.out] at hbl
        have hel:=exL_len j3
        have ES:=hide (exL_succ j3)
        have EE:=hide (show exL j3=exL j3 from rfl)
        obtain ⟨es,hes⟩:∃ es,es=exL j3:=⟨_,rfl⟩
        rw [← hes] at HM hel ES
        have HES:=hide hes
        clear hes EE
        obtain ⟨p2,f2⟩:=HM.two 2 (.slice M.a2 M.bl.length M.c2) rfl
        by_cases hlt:j3<mb+1
        ·have hlt':(j3:Int) - 1<(M.bl.length:Int):=by omega
         have hb3:es.length≤4:=by omega
         have h00:-1≤(j3:Int) - 1:=by omega
         have h01:(j3:Int) - 1≤3:=by omega
         clear hbl hel
         obtain ⟨p7,f7⟩:=HM.two 7 (.slice M.a7 es.length M.c7) rfl
         have hszw:=HM.m.d.sz
         have HM:=hide HM
         have HEX:=hide (fun W=>l4Export_any ((j3:Int) - 1) h00 h01 W)
         rw [show ((j3:Int) - 1+1).toNat=j3 by omega] at HEX
         obtain ⟨xn,hxn⟩:∃ xn,exN j3=xn:=⟨_,rfl⟩
         rw [hxn] at HEX ES
         clear hxn
         go_wp2_with fail
         go_region_law (first
          | (refine step_append_lies _ rfl _ _ 47 rfl w.heap.size 210 iX (.agg #[.string ⟨#[]⟩,.int .i64 0,.int .i64 0]) 3 32 Tryz.underlying47 hiX hz0iX hz1iX hz2iX rfl (by decide) (.slice M.a7 es.length M.c7) es.length (es.flatMap clX) rfl HOW.out ⟨wa.heap.size,0,none⟩ 1 1 (clX (xn,(j3:Int) - 1,0)) rfl rfl HNW.out (by intro u hu;simp [clI,clT,clX] at hu;first | (subst hu;rfl) | (rcases hu with rfl | rfl | rfl <;> rfl)) (by decide) (by unfold maxLen;omega) (by omega) HSZ.out _ rfl ?_;intro g4 c4 w4 hown hgr hat hlt4;obtain ⟨p4,f4⟩:=HMA.out.cell4 HOW.out hgr (by decide) 7 (u:=.slice M.a7 es.length M.c7) rfl)
          | (go_simp;go_at_call 196;refine (HEX.out _).mono ?_;rintro e wa ⟨rfl,hba⟩;have MA:=MR.below (w:=w) (k:=k2+md) (g:=w4.heap.size+5) (q:=w.heap.size) (P:=⟨nm,T,B,dz,V % 64,[],[],es⟩) (M:=M) (by first | exact HM.out | exact HM.out.drew) hba;obtain ⟨pa,fa⟩:=MA.two 7 (.slice M.a7 es.length M.c7) rfl;have HMA:=hide (MA.below (al_below wa (.cells #[.string xn,.int .i64 ((j3:Int) - 1),.int .i64 0] 210)));obtain ⟨pb,fb⟩:=HMA.out.two 7 (.slice M.a7 es.length M.c7) rfl;have HOW:=hide HMA.out.m.o.e;have HNW:=hide (cells_new wa _ 210 (clX (xn,(j3:Int) - 1,0)) rfl);have HSZ:=hide HMA.out.m.d.sz;clear MA hba))
         all_goals
          have HF:=hide (MR.exp (x:=(xn,(j3:Int) - 1,0)) HMA.out hown hgr)
          clear p2 f2 p7 f7 pa fa pb fb HMA HOW HNW HSZ hown hgr hat hlt4 HM HEX
          go_wp2
          go_roundw
          case rel=>exact ⟨j3+1,_,by omega,by first | go_num | (congr 1;omega),by rw [ES.out];exact HF.out⟩
          case measure=>simp [intOf];omega
        ·have hlt':¬ (j3:Int) - 1<(M.bl.length:Int):=by omega
         have HE1:=hide (show exL (mb+1)=es by rw [HES.out,show j3=mb+1 by omega])
         have hne:=HM.ne
         obtain ⟨b0,b1,b2,b3,b4,b5,b6,b7⟩:=HM.m.box.eight'
         obtain ⟨r0,r1,r2,r3,r4,r5,r6,r7⟩:=z8_cells HM.res
         obtain ⟨s0,s1,s2,s3,s4,s5,s6,s7⟩:=HM.res.froz
         clear hbl hel p2 f2
         have HM:=hide HM
         go_wp2
         refine modl_end HM.out.res rfl _ _ _ _ _ _ _ _ _ _ rfl ?_
         rw [HDZ.out,HE1.out,hrz1.out]
         exact ⟨M,rfl,HM.out.m.d.grow ((turn_st8 wr3 w.heap.size _ _ _ _ _ _ _ _).mono (fun j hj=>by subst hj;exact HM.out.hq)),HM.out.m.o.kept (turn_st8 wr3 w.heap.size _ _ _ _ _ _ _ _) (fun j hj=>.inr (by subst hj;exact ⟨_,HM.out.res⟩)),HM.out.m.ds⟩
theorem bk_bound {C:Nat→List Int × Nat} {Q:List Int→Prop} (h:∀ q,Q (C q).1) (k:Nat) (j:Nat):∀ l ∈ (sq (bkC C) [] k j).1,Q l:=sq_all (F:=bkC C) (Q:=Q) (fun q l hl=>by simp [bkC] at hl;subst hl;exact h q) [] (by simp) k j
theorem exL_ok:∀ (j:Nat),j≤4→(exL j).length≤4∧∀ x ∈ exL j,x.1.size≤2∧-1≤x.2.1∧x.2.1≤3∧x.2.2=0:=by
 intro j hj
 refine ⟨by rw [exL_len];exact hj,fun x hx=>?_⟩
 unfold exL at hx
 rw [List.mem_map] at hx
 obtain ⟨q,hq,rfl⟩:=hx
 rw [List.mem_range] at hq
 refine ⟨?_,by dsimp only;omega,by dsimp only;omega,rfl⟩
 show (exN q).size≤2
 rcases (show q=0∨q=1∨q=2∨q=3 by omega) with rfl | rfl | rfl | rfl <;> decide
theorem l4Module_fn (zs:List Int) (hz:∀ j,0≤zs.getD j 0∧zs.getD j 0≤255) (i:Nat) (hi:i≤3) (k:Nat):∃ y:PMod × Nat,DmR i y.1∧ModFn zs k i y.1 y.2:=by
 obtain ⟨C,hC⟩:=Classical.axiomOfChoice (l4Code_fn zs hz)
 obtain ⟨K,E1,z0,z1⟩:=draw_of hz k
 obtain ⟨V,E2,y0,y1⟩:=draw_of hz (k+1)
 have hr:∀ b:Bool,(if b=true then [0] else ([]:List Int))=[]∨(if b=true then [0] else ([]:List Int))=[0]:=by decide
 obtain ⟨mb,hmb⟩:∃ m:Nat,(m:Int)=K % 4:=⟨(K % 4).toNat,by omega⟩
 obtain ⟨md,hmd⟩:∃ m:Nat,(m:Int)=K / 4 % 5 * 4:=⟨(K / 4 % 5 * 4).toNat,by omega⟩
 refine ⟨(_,_),⟨rfl,?_,⟨?_,?_⟩,⟨?_,?_⟩,?_,?_,rfl,?_⟩,l4Module_walk zs hz k i hi C (hide (fun q=>(hC q).2)) K V E1 E2 z0 z1 y0 y1 _ _ (rfl:C (k+2)=((C (k+2)).1,(C (k+2)).2)) mb md _ hmb hmd _ (rfl:sq (bkC C) [] (C (k+2)).2 mb=((sq (bkC C) [] (C (k+2)).2 mb).1,(sq (bkC C) [] (C (k+2)).2 mb).2)) (nmN i) rfl (if 4≤md∧V % 2=1 then [0] else []) rfl⟩
 ·exact (hC (k+2)).1
 ·show (sq (bkC C) [] (C (k+2)).2 mb).1.length≤3
  rw [bk_len];omega
 ·exact bk_bound (Q:=fun l=>l.length≤40∧∀ z ∈ l,0≤z∧z≤4294967295) (fun q=>⟨(hC q).1.1.2,(hC q).1.2⟩) _ _
 ·show (dtL zs _ md).length≤16
  rw [dtL_len];omega
 ·intro z hz'
  unfold dtL at hz'
  rw [List.mem_map] at hz'
  obtain ⟨q,_,rfl⟩:=hz'
  omega
 ·show 0≤V % 64∧V % 64≤63
  omega
 ·show (if 4≤md∧V % 2=1 then [0] else [])=[]∨(if 4≤md∧V % 2=1 then [0] else [])=[0]
  split
  ·exact .inr rfl
  ·exact .inl rfl
 ·exact exL_ok (mb+1) (by omega)
def clM (x:PMod × Ma):List Value:=[.string x.1.nm,.slice x.2.a1 x.1.tz.length x.2.c1,.slice x.2.a2 x.2.bl.length x.2.c2,.slice x.2.a3 x.1.dz.length x.2.c3,.int .i64 x.1.bss,.slice x.2.a5 x.1.rz.length x.2.c5,.slice x.2.a6 x.1.ss.length x.2.c6,.slice x.2.a7 x.1.es.length x.2.c7]
def own6 (x:PMod × Ma):Option Nat:=(Value.slice x.2.a6 x.1.ss.length x.2.c6).ownBlock
theorem flat_get8:∀ (L:List (PMod × Ma)) (i:Nat) (x:PMod × Ma),L[i]?=some x→∀ j,j<8→(L.flatMap clM)[i * 8+j]?=(clM x)[j]?
 | [],i,x,h,j,hj=>by simp at h
 | y :: L,0,x,h,j,hj=>by
   simp at h
   subst h
   rw [List.flatMap_cons,List.getElem?_append_left (by simp [clM];omega)]
   simp
 | y :: L,i+1,x,h,j,hj=>by
   rw [List.flatMap_cons,List.getElem?_append_right (by simp [clM];omega)]
   have e:(i+1) * 8+j - (clM y).length=i * 8+j:=by simp [clM];omega
   rw [e]
   exact flat_get8 L i x (by simpa using h) j hj
theorem flat_set8 (v:Value) (x':PMod × Ma):∀ (L:List (PMod × Ma)) (i:Nat) (x:PMod × Ma),L[i]?=some x→clM x'=(clM x).set 6 v→(L.flatMap clM).set (i * 8+6) v=(L.set i x').flatMap clM
 | [],i,x,h,e=>by simp at h
 | y :: L,0,x,h,e=>by
   simp at h
   subst h
   rw [List.set_cons_zero,List.flatMap_cons,List.flatMap_cons,e]
   exact List.set_append_left _ _ (by simp [clM])
 | y :: L,i+1,x,h,e=>by
   rw [List.set_cons_succ,List.flatMap_cons,List.flatMap_cons,← flat_set8 v x' L i x (by simpa using h) e,List.set_append_right _ _ (by simp [clM];omega)]
   congr 2
   simp [clM]
   omega
theorem owns_set {W:World} {base:Nat} {t:TypeId} {sz g n cap:Nat} {xs:List Value} (h:W.ownsRow base t sz (.slice (some ⟨g,0,none⟩) n cap) n xs) (k:Nat) (v:Value):(W.setCell ⟨g,k,none⟩ v).ownsRow base t sz (.slice (some ⟨g,0,none⟩) n cap) n (xs.set k v):=by
 obtain ⟨hl,⟨h0,_⟩ | ⟨g',cap',cur,hv,hg,hh,h1,h2,h3,h4⟩⟩:=h
 ·simp at h0
 ·simp at hv
  obtain ⟨rfl,rfl⟩:=hv
  refine ⟨by simpa using hl,.inr ⟨g,cap,cur.setIfInBounds k v,rfl,hg,Blk.set (w:=W) hh k v,h1,h2,by simpa using h3,?_⟩⟩
  rw [Array.toList_setIfInBounds,List.take_set,h4]
theorem grown_trn {W W':World} {row:Option Nat} (hg:W.grownBy W' row):Turn (fun j=>row=some j) W W':=⟨hg.os,hg.tape,hg.output,hg.size,fun j hj hs=>hg.block j hj (fun e=>hs e.symm)⟩
theorem MO.grownM {W W':World} {base base' n:Nat} {P:PMod} {M:Ma} {v:Value} {xs:List Value} (h:MO W base P M) (ho:W.ownsRow base' 49 8 v n xs) (hg:W.grownBy W' v.ownBlock):MO W' base P M:=h.kept (grown_trn hg) (fun j hj=>.inr (own_kind ho hj))
theorem MO.mono {W:World} {base base':Nat} {P:PMod} {M:Ma} (h:MO W base P M) (hb:base'≤base):MO W base' P M:=ModO.mono h hb
theorem MO.below {W W':World} {base:Nat} {P:PMod} {M:Ma} (h:MO W base P M) (hb:Below W.heap.size W W'):MO W' base P M:=h.kept (S:=fun _=>False) (turn_below hb) (fun j hj=>absurd hj id)
theorem MO.far_i {W W':World} {base base' n:Nat} {P:PMod} {M:Ma} {v:Value} {xs:List Value} (h:MO W base P M) (ho:W.ownsRow base' 9 1 v n xs) (hg:W.grownBy W' v.ownBlock) (hne:∀ k,v.ownBlock=some k→(Value.slice M.a6 P.ss.length M.c6).ownBlock≠some k):MO W' base P M where
 t:=h.t.grown hg (ne_kind h.t ho (by decide))
 b:=h.b.grown hg (ne_kind h.b.head ho (by decide)) (fun B hB=>ne_kind (h.b.rows B hB).2 ho (by decide))
 bls:=h.bls
 d:=h.d.grown' hg (ne_kind h.d.1 ho (by decide))
 r:=h.r.grown hg (ne_kind h.r ho (by decide))
 i:=h.i.grown hg (ne_some hne)
 e:=h.e.grown hg (ne_kind h.e ho (by decide))
 tb:=h.tb
 tr:=h.tr
 br:=h.br
def rb (x:PMod × Ma) (b:Nat):Prop:=(Value.slice x.2.a1 x.1.tz.length x.2.c1).ownBlock=some b∨(Value.slice x.2.a2 x.2.bl.length x.2.c2).ownBlock=some b∨(Value.slice x.2.a5 x.1.rz.length x.2.c5).ownBlock=some b∨(Value.slice x.2.a7 x.1.es.length x.2.c7).ownBlock=some b∨∃ B ∈ x.2.bl,(Value.slice B.1 B.2.1 B.2.2.1).ownBlock=some b
def Sep (L:List (PMod × Ma)):Prop:=∀ (i j:Nat) (x y:PMod × Ma),L[i]?=some x→L[j]?=some y→i≠j→∀ b,rb x b→¬ rb y b
theorem MO.rb_lt {W:World} {base:Nat} {x:PMod × Ma} (h:MO W base x.1 x.2) (b:Nat) (hb:rb x b):base≤b∧b<W.heap.size:=by
 rcases hb with e | e | e | e | ⟨B,hB,e⟩
 ·exact h.t.lt b e
 ·exact h.b.head.lt b e
 ·exact h.r.lt b e
 ·exact h.e.lt b e
 ·exact (h.b.rows B hB).2.lt b e
theorem sep_nil:Sep []:=fun i j x y hx=>by simp at hx
structure Mst (w W:World) (r:Nat) (a:Option Addr) (n c:Nat) (zs:List Int) (k:Nat) (v:Value) (L:List (PMod × Ma)):Prop where
 d:Dst w W r a n c zs k
 o:OG 49 8 clM W w.heap.size v L
 m:∀ (i:Nat) (x:PMod × Ma),L[i]?=some x→MO W w.heap.size x.1 x.2∧∃ db,x.2.a3=some ⟨db,0,none⟩
 ap:∀ (i j:Nat) (x y:PMod × Ma),L[i]?=some x→L[j]?=some y→i≠j→∀ q,own6 x=some q→own6 y≠some q
 sp:Sep L
theorem Mst.below {w W W':World} {r:Nat} {a:Option Addr} {n c:Nat} {zs:List Int} {k:Nat} {v:Value} {L:List (PMod × Ma)} (h:Mst w W r a n c zs k v L) (hb:Below W.heap.size W W'):Mst w W' r a n c zs k v L:=⟨h.d.below hb,h.o.below hb,fun i x hx=>⟨(h.m i x hx).1.below hb,(h.m i x hx).2⟩,h.ap,h.sp⟩
theorem Mst.drew {w W:World} {r:Nat} {a:Option Addr} {n c:Nat} {zs:List Int} {k:Nat} {v:Value} {L:List (PMod × Ma)} (h:Mst w W r a n c zs k v L):Mst w W.drew r a n c zs k v L:=h.below (Below.refl _ _).drew
theorem Mst.turn {w W W':World} {r:Nat} {a:Option Addr} {n c:Nat} {zs:List Int} {k k':Nat} {v:Value} {L:List (PMod × Ma)} (h:Mst w W r a n c zs k v L) (ht:Turn (fun j=>j=r) W W') (d:Dst w W' r a n c zs k'):Mst w W' r a n c zs k' v L:=
 ⟨d,h.o.turn ht (fun j hj=>by have:=h.d.lt;omega),fun i x hx=>⟨(h.m i x hx).1.kept ht (fun j hj=>.inl (by subst hj;exact h.d.lt)),(h.m i x hx).2⟩,h.ap,h.sp⟩
theorem Mst.next {w W:World} {r:Nat} {a:Option Addr} {n c:Nat} {zs:List Int} {k:Nat} {v:Value} {L:List (PMod × Ma)} (h:Mst w W r a n c zs k v L) (x:Int) (hx:Hid (zs.getD k 0=x)):
 Calls Tryz.prog 51 #[.pointer (some ⟨r,0,none⟩)] W fun e w'=>e=.returned (.int .i64 x)∧Mst w w' r a n c zs (k+1) v L:=
 (h.d.next x hx).mono fun e w' ⟨he,hd,ht⟩=>⟨he,h.turn ht hd⟩
theorem get_snoc {α:Type} {L:List α} {y x:α} {i:Nat} (h:(L++[y])[i]?=some x):L[i]?=some x∨(i=L.length∧x=y):=by
 rcases Nat.lt_or_ge i L.length with hi | hi
 ·rw [List.getElem?_append_left hi] at h
  exact .inl h
 ·rw [List.getElem?_append_right hi] at h
  by_cases e:i - L.length=0
  ·rw [e] at h
   simp at h
   exact .inr ⟨by omega,h.symm⟩
  ·obtain ⟨m,hm⟩:∃ m,i - L.length=m+1:=⟨i - L.length - 1,by omega⟩
   rw [hm] at h
   simp at h
theorem Mst.push {w W wa w':World} {r:Nat} {a:Option Addr} {n c:Nat} {zs:List Int} {k k':Nat} {v v':Value} {L:List (PMod × Ma)} {x:PMod × Ma} {cs:Array Value} (h:Mst w W r a n c zs k v L) (d:Dst W wa r a n c zs k') (mo:MO wa W.heap.size x.1 x.2) (ds:∃ db,x.2.a3=some ⟨db,0,none⟩)
 (hown:w'.ownsRow w.heap.size 49 8 v' (L.length+1) (L.flatMap clM++clM x)) (hg:(wa.alloc (.cells cs 49)).grownBy w' v.ownBlock):Mst w w' r a n c zs k' v' (L++[x]):=by
 have hA:=(h.turn d.t (h.d.trans d)).below (al_below wa (.cells cs 49))
 have hs:=h.d.sz
 refine ⟨hA.d.grown hg (fun j hj=>(hA.o.lt j hj).1),?_,fun i y hy=>?_,fun i j y z hy hz hij q hq=>?_,fun i j y z hy hz hij b hb hb'=>?_⟩
 ·unfold OG
  rw [List.length_append,List.flatMap_append]
  simpa using hown
 ·rcases get_snoc hy with hy | ⟨_,rfl⟩
  ·exact ⟨(hA.m i y hy).1.grownM hA.o hg,(hA.m i y hy).2⟩
  ·exact ⟨((mo.below (al_below wa _)).grownM hA.o hg).mono hs,ds⟩
 ·rcases get_snoc hy with hy1 | ⟨ei,rfl⟩ <;> rcases get_snoc hz with hz1 | ⟨ej,rfl⟩
  ·exact h.ap i j y z hy1 hz1 hij q hq
  ·intro e
   have h1:=((h.m i y hy1).1.i.lt q hq).2
   have h2:=(mo.i.lt q e).1
   omega
  ·intro e
   have h1:=((h.m j z hz1).1.i.lt q e).2
   have h2:=(mo.i.lt q hq).1
   omega
  ·omega
 ·rcases get_snoc hy with hy1 | ⟨ei,rfl⟩ <;> rcases get_snoc hz with hz1 | ⟨ej,rfl⟩
  ·exact h.sp i j y z hy1 hz1 hij b hb hb'
  ·have h1:=((h.m i y hy1).1.rb_lt b hb).2
   have h2:=(mo.rb_lt b hb').1
   omega
  ·have h1:=((h.m j z hz1).1.rb_lt b hb').2
   have h2:=(mo.rb_lt b hb).1
   omega
  ·omega
theorem get_set {α:Type} {L:List α} {x' x:α} {i j:Nat} (h:(L.set i x')[j]?=some x):(j=i∧x=x')∨(j≠i∧L[j]?=some x):=by
 rw [List.getElem?_set] at h
 split at h
 ·rename_i e
  split at h
  ·simp at h;exact .inl ⟨e.symm,h.symm⟩
  ·simp at h
 ·rename_i e
  exact .inr ⟨fun e'=>e e'.symm,h⟩
theorem Mst.imp {w W w4:World} {r:Nat} {a:Option Addr} {n c:Nat} {zs:List Int} {k i g m cap g4 c4:Nat} {L:List (PMod × Ma)} {x:PMod × Ma} {s:ByteArray} (h:Mst w W r a n c zs k (.slice (some ⟨g,0,none⟩) m cap) L) (hm:L.length=m) (hx:L[i]?=some x)
 (hown:w4.ownsRow w.heap.size 9 1 (.slice (some ⟨g4,0,none⟩) (x.1.ss.length+1) c4) (x.1.ss.length+1) (x.1.ss.flatMap clT++clT s)) (hg:W.grownBy w4 (Value.slice x.2.a6 x.1.ss.length x.2.c6).ownBlock) (hat:(Value.slice x.2.a6 x.1.ss.length x.2.c6).ownBlock=some g4∨g4=W.heap.size):
 Mst w (w4.setCell ⟨g,i * 8+6,none⟩ (.slice (some ⟨g4,0,none⟩) (x.1.ss.length+1) c4)) r a n c zs k (.slice (some ⟨g,0,none⟩) m cap) (L.set i ({ x.1 with ss:=x.1.ss++[s] },{ x.2 with a6:=some ⟨g4,0,none⟩,c6:=c4 })):=by
 obtain ⟨mx,dx⟩:=h.m i x hx
 have hgo:=(h.o.lt g rfl).1
 have o1:OG 49 8 clM w4 w.heap.size (.slice (some ⟨g,0,none⟩) m cap) L:=h.o.grown hg (ne_kind h.o mx.i (by decide))
 have kb:∀ j,j=g→∃ cs,Blk w4 j cs 49:=fun j hj=>by subst hj;exact own_kind o1 rfl
 have gi:MO w4 w.heap.size { x.1 with ss:=x.1.ss++[s] } { x.2 with a6:=some ⟨g4,0,none⟩,c6:=c4 }:=mx.grow_i (X:=[s]) rfl (by unfold OG;rw [List.length_append,List.flatMap_append];simpa using hown) hg
 refine ⟨(h.d.grown hg (fun j hj=>(mx.i.lt j hj).1)).set hgo _ _,?_,fun j y hy=>?_,fun j j' y z hy hz hij q hq=>?_,fun j j' y z hy hz hij b hb hb'=>?_⟩
 ·unfold OG at o1 ⊢
  rw [List.length_set]
  rw [hm] at o1 ⊢
  have:=owns_set o1 (i * 8+6) (.slice (some ⟨g4,0,none⟩) (x.1.ss.length+1) c4)
  rw [flat_set8 _ ({ x.1 with ss:=x.1.ss++[s] },{ x.2 with a6:=some ⟨g4,0,none⟩,c6:=c4 }) L i x hx (by simp [clM])] at this
  exact this
 ·rcases get_set hy with ⟨_,rfl⟩ | ⟨hj,hy⟩
  ·exact ⟨gi.kept (turn_set w4 g _ _) (fun j hj=>.inr (kb j hj)),dx⟩
  ·exact ⟨((h.m j y hy).1.far_i mx.i hg (h.ap i j x y hx hy (fun e=>hj e.symm))).kept (turn_set w4 g _ _) (fun j hj=>.inr (kb j hj)),(h.m j y hy).2⟩
 ·have key:∀ jj y,L[jj]?=some y→jj≠i→own6 y≠some g4:=fun jj y hy hj e=>by
   rcases hat with e2 | e2
   ·exact h.ap i jj x y hx hy (fun e=>hj e.symm) g4 e2 e
   ·have:=((h.m jj y hy).1.i.lt g4 e).2
    omega
  rcases get_set hy with ⟨e1,rfl⟩ | ⟨hj,hy⟩ <;> rcases get_set hz with ⟨e2,rfl⟩ | ⟨hj',hz⟩
  ·omega
  ·have:some g4=some q:=hq
   injection this with this
   subst this
   exact key j' z hz hj'
  ·intro e
   have:some g4=some q:=e
   injection this with this
   subst this
   exact key j y hy hj hq
  ·exact h.ap j j' y z hy hz hij q hq
 ·rcases get_set hy with ⟨e1,rfl⟩ | ⟨hj,hy⟩ <;> rcases get_set hz with ⟨e2,rfl⟩ | ⟨hj',hz⟩
  ·omega
  ·exact h.sp i j' x z hx hz (by omega) b hb hb'
  ·exact h.sp j i y x hy hx (by omega) b hb hb'
  ·exact h.sp j j' y z hy hz hij b hb hb'
theorem Mst.cells {w W:World} {r:Nat} {a:Option Addr} {n c:Nat} {zs:List Int} {k i g m cap:Nat} {L:List (PMod × Ma)} {x:PMod × Ma} (h:Mst w W r a n c zs k (.slice (some ⟨g,0,none⟩) m cap) L) (hx:L[i]?=some x) (j:Nat) (hj:j<8) (u:Value) (hu:(clM x)[j]?=some u):W.cell? ⟨g,i * 8+j,none⟩=some u:=by
 have hi:i<L.length:=by
  rcases Nat.lt_or_ge i L.length with hi | hi
  ·exact hi
  ·rw [List.getElem?_eq_none hi] at hx;cases hx
 obtain ⟨h1,_,_,h4⟩:=og_parts h.o
 obtain ⟨g',e,hc⟩:=h4 (by omega)
 simp at e
 subst e
 exact hc _ _ (by rw [flat_get8 L i x hx j hj];exact hu)
theorem Mst.frozen {w W:World} {r:Nat} {a:Option Addr} {n c:Nat} {zs:List Int} {k g m cap:Nat} {L:List (PMod × Ma)} (h:Mst w W r a n c zs k (.slice (some ⟨g,0,none⟩) m cap) L) (j:Nat):W.frozen? ⟨g,j,none⟩=false:=by
 obtain ⟨cs,b⟩:=own_kind h.o (k:=g) rfl
 exact b.frozen j
end Go.Proofs.YtngdgogjlpjjpadGreat
