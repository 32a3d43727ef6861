import Derived.Test.YtngdgogjlpjjpadGreatP19
namespace Go.Proofs.YtngdgogjlpjjpadGreat
open Go.RowKit
set_option linter.unusedVariables false
set_option linter.unusedSimpArgs false
set_option maxRecDepth 100000
theorem u8_small (x:Int) (h0:0≤x) (h1:x≤255):IntKind.u8.wrap x=x:=by
 unfold IntKind.wrap
 simp [IntKind.bits,IntKind.signed]
 omega
def dtL (zs:List Int) (k j:Nat):List Int:=(List.range j).map fun q=>zs.getD (k+q) 0 % 32
def exL (j:Nat):List Ex:=(List.range j).map fun q=>(exN q,(q:Int) - 1,0)
def bkC (C:Nat→List Int × Nat) (q:Nat):List (List Int) × Nat:=([(C q).1],(C q).2)
theorem dtL_succ (zs:List Int) (k j:Nat):dtL zs k (j+1)=dtL zs k j++[zs.getD (k+j) 0 % 32]:=by simp [dtL,List.range_succ]
theorem dtL_len (zs:List Int) (k j:Nat):(dtL zs k j).length=j:=by simp [dtL]
theorem exL_succ (j:Nat):exL (j+1)=exL j++[(exN j,(j:Int) - 1,0)]:=by simp [exL,List.range_succ]
theorem exL_len (j:Nat):(exL j).length=j:=by simp [exL]
theorem bk_succ (C:Nat→List Int × Nat) (k j:Nat):(sq (bkC C) [] k (j+1)).1=(sq (bkC C) [] k j).1++[(C (sq (bkC C) [] k j).2).1]∧(sq (bkC C) [] k (j+1)).2=(C (sq (bkC C) [] k j).2).2:=⟨rfl,rfl⟩
theorem bk_len (C:Nat→List Int × Nat) (k:Nat):∀ j,(sq (bkC C) [] k j).1.length=j
 | 0=>rfl
 | j+1=>by rw [(bk_succ C k j).1,List.length_append,bk_len C k j];rfl
theorem mr_bl {w W:World} {r:Nat} {a:Option Addr} {n c:Nat} {zs:List Int} {k g q:Nat} {P:PMod} {M:Ma} (h:MR w W r a n c zs k g q P M):M.bl.length=P.bl.length:=by rw [← h.m.o.bls,List.length_map]
set_option maxHeartbeats 8000000 in
theorem l4Module_walk (zs:List Int) (hz:∀ j,0≤zs.getD j 0∧zs.getD j 0≤255) (k i:Nat) (hi:i≤3) (C:Nat→List Int × Nat) (HC:Hid (∀ q,CodeFn zs q (C q).1 (C q).2)) (K V:Int) (E1:Hid (zs.getD k 0=K)) (E2:Hid (zs.getD (k+1) 0=V)) (z0:0≤K) (z1:K≤255) (y0:0≤V) (y1:V≤255) (T:List Int) (k1:Nat) (HT:Hid (C (k+2)=(T,k1))) (mb md k2:Nat) (hmb:(mb:Int)=K % 4) (hmd:(md:Int)=K / 4 % 5 * 4) (B:List (List Int)) (HB:Hid (sq (bkC C) [] k1 mb=(B,k2))) (nm:ByteArray) (HNM:Hid (nmN i=nm)) (rz:List Int) (hrz:Hid (rz=if 4≤md∧V % 2=1 then [0] else [])):
 ModFn zs k i ⟨nm,T,B,dtL zs k2 md,V % 64,rz,[],exL (mb+1)⟩ (k2+md):=by
 intro w r a n c h
 have hB0:Below w.heap.size w (w.alloc (.cells #[.string ⟨#[]⟩,.slice none 0 0,.slice none 0 0,.slice none 0 0,.int .i64 0,.slice none 0 0,.slice none 0 0,.slice none 0 0] 49)):=(Below.refl _ _).alloc (Nat.le_refl _) _
 have D0:=h.below hB0
 have R0:Blk _ w.heap.size z8 49:=Blk.new w #[.string ⟨#[]⟩,.slice none 0 0,.slice none 0 0,.slice none 0 0,.int .i64 0,.slice none 0 0,.slice none 0 0,.slice none 0 0] 49
 have hlt:=h.lt
 have HZ:=hide hz
 obtain ⟨iB,hiB,hz0iB,hz1iB,hz2iB⟩:=info_parts infoB
 obtain ⟨i8,hi8,hz0i8,hz1i8,hz2i8⟩:=info_parts info8
 obtain ⟨iI,hiI,hz0iI,hz1iI,hz2iI⟩:=info_parts infoI
 obtain ⟨iX,hiX,hz0iX,hz1iX,hz2iX⟩:=info_parts infoX
 clear h hB0 hz
 go_enter Tryz.func137,Tryz.ntmps137
 go_wp2_with fail
 refine (D0.next K E1).mono ?_
 rintro e w1 ⟨rfl,D1,t1⟩
 have R1:=turn_blk t1 R0 (by omega)
 clear D0 R0 t1
 go_wp2_with fail
 refine (D1.next V E2).mono ?_
 rintro e w2 ⟨rfl,D2,t2⟩
 have R2:=turn_blk t2 R1 (by omega)
 clear D1 R1 t2
 go_wp2_with fail
 refine (l4Name_any i hi _).mono ?_
 rintro e w3 ⟨rfl,hb3⟩
 rw [HNM.out]
 have D3:=D2.below hb3
 have R3:=R2.below hb3
 clear D2 R2 hb3
 have CC:=HC.out (k+2)
 rw [HT.out] at CC
 have CC':=hide (CC w3 r a n c (by have:=D3.fresh;rw [Nat.add_assoc] at this;exact this))
 clear CC
 go_wp2_with fail
 refine CC'.out.mono ?_
 rintro e w4 ⟨v4,rfl,L4⟩
 obtain ⟨a1,c1,rfl⟩:=og_shape L4.o
 have hs3:=D3.sz
 have R4:=turn_blk L4.d.t R3 (by have:=D3.lt;omega)
 have HM0:=hide (mr_new (D3.trans L4.d) (L4.o.mono hs3) R4 nm (V % 64))
 clear CC' L4 R3 D3 R4 hs3 hlt
 go_wp2
 go_loopw [8] (fun i wr=>∃ (j:Nat) (M:Ma),j≤mb∧i=.int .i64 j∧MR w wr r a n c zs (sq (bkC C) [] k1 j).2 (w4.heap.size+5) w.heap.size ⟨nm,T,(sq (bkC C) [] k1 j).1,[],V % 64,[],[],[]⟩ M) (fun i _=>mb - (intOf i).toNat)
 case atStart=>exact ⟨0,_,Nat.zero_le _,rfl,HM0.out⟩
 case round=>
  obtain ⟨j,M,hj,rfl,HM⟩:=hrel
  generalize wr=wr1 at *
  clear HM0
  by_cases hlt:j<mb
  ·have hlt':(j:Int)<K % 4:=by omega
   obtain ⟨p2,f2⟩:=HM.two 2 (.slice M.a2 M.bl.length M.c2) rfl
   have hbl:=mr_bl HM
   dsimp only at hbl
   rw [bk_len] at hbl
   have hb3:M.bl.length≤3:=by omega
   clear hbl
   have hszw:=HM.m.d.sz
   have HM:=hide HM
   have EK:=hide (bk_succ C k1 j)
   have HCk:=hide (HC.out (sq (bkC C) [] k1 j).2)
   generalize (sq (bkC C) [] k1 j).1=Bj at *
   generalize (sq (bkC C) [] k1 j).2=kj at *
   obtain ⟨x,k',hx⟩:∃ x k',C kj=(x,k'):=⟨_,_,rfl⟩
   rw [hx] at EK HCk
   dsimp only at HCk
   have EK1:=hide EK.out.1
   have EK2:=hide EK.out.2
   clear hx EK
   go_wp2_with fail
   go_region_law (first
    | (refine step_append_lies _ rfl _ _ 45 rfl w.heap.size 29 iB (.slice none 0 0) 1 24 Tryz.underlying45 hiB hz0iB hz1iB hz2iB rfl (by decide) (.slice M.a2 M.bl.length M.c2) M.bl.length (M.bl.map fun B=>Value.slice B.1 B.2.1 B.2.2.1) rfl HOW.out ⟨wa.heap.size,0,none⟩ 1 1 [.slice A x.length Cp] rfl rfl HNW.out (by intro u hu;simp [clI,clT,clX] at hu;first | (subst hu;rfl) | (rcases hu with rfl | rfl | rfl <;> rfl)) (by decide) (by unfold maxLen;omega) (by omega) HSZ.out _ rfl ?_;intro g4 c4 w4 hown hgr hat hlt4;obtain ⟨p4,f4⟩:=HMA.out.cell4 HOW.out hgr (by decide) 2 (u:=.slice M.a2 M.bl.length M.c2) rfl)
    | (go_simp;go_at_call 198;refine (MR.code (w:=w) (g:=w4.heap.size+5) (q:=w.heap.size) (P:=⟨nm,T,Bj,[],V % 64,[],[],[]⟩) (M:=M) (by first | exact HM.out | exact HM.out.drew) HCk.out).mono ?_;rintro e wa ⟨A,Cp,rfl,ox,MA⟩;have HOX:=hide (And.intro ox MA);obtain ⟨pa,fa⟩:=MA.two 2 (.slice M.a2 M.bl.length M.c2) rfl;have HMA:=hide (MA.below (al_below wa (.cells #[.slice A x.length Cp] 29)));obtain ⟨pb,fb⟩:=HMA.out.two 2 (.slice M.a2 M.bl.length M.c2) rfl;have HOW:=hide HMA.out.m.o.b.head;have HNW:=hide (cells_new wa _ 29 [.slice A x.length Cp] rfl);have HSZ:=hide HMA.out.m.d.sz;clear ox MA))
   all_goals
    have HF:=hide (MR.bank HM.out HOX.out.2 HOX.out.1 hown hgr)
    clear p2 f2 pa fa pb fb HOX HMA HOW HNW HSZ hown hgr hat hlt4 HM HCk
    go_wp2
    go_roundw
    case rel=>exact ⟨j+1,_,by omega,by go_num,by rw [EK1.out,EK2.out];exact HF.out⟩
    case measure=>simp [intOf];omega
  ·have hlt':¬ (j:Int)<K % 4:=by omega
   have ejm:j=mb:=by omega
   rw [ejm,HB.out] at HM
   dsimp only at HM
   have hBl:B.length=mb:=by have:=bk_len C k1 mb;rw [HB.out] at this;exact this
   have HBL:=hide hBl
   have HM1:=hide HM
   clear hlt hj HC HT HB ejm hBl HM
   go_wp2
   go_loopw [9] (fun i wr=>∃ (j:Nat) (M:Ma),j≤md∧i=.int .i64 j∧MR w wr r a n c zs (k2+j) (w4.heap.size+5) w.heap.size ⟨nm,T,B,dtL zs k2 j,V % 64,[],[],[]⟩ M) (fun i _=>md - (intOf i).toNat)
   case atStart=>exact ⟨0,_,Nat.zero_le _,rfl,HM1.out⟩
   case round=>
    obtain ⟨j2,M,hj2,rfl,HM⟩:=hrel
    generalize wr=wr2 at *
    clear HM1
    by_cases hlt:j2<md
    ·have hlt':(j2:Int)<K / 4 % 5 * 4:=by omega
     obtain ⟨x,EX,x0,x1⟩:=draw_of HZ.out (k2+j2)
     have e8:IntKind.u8.wrap (x.tmod 32)=x % 32:=by rw [Int.tmod_eq_emod_of_nonneg x0];exact u8_small _ (by omega) (by omega)
     have HX8:=hide (show 0≤IntKind.u8.wrap (x.tmod 32)∧IntKind.u8.wrap (x.tmod 32)≤255 by rw [e8];omega)
     have ES:=hide (show dtL zs k2 (j2+1)=dtL zs k2 j2++[IntKind.u8.wrap (x.tmod 32)] by rw [e8,dtL_succ,EX.out])
     clear e8
     have hdl:=dtL_len zs k2 j2
     generalize dtL zs k2 j2=dz at *
     obtain ⟨p2,f2⟩:=HM.two 3 (.slice M.a3 dz.length M.c3) rfl
     have hb3:dz.length≤16:=by omega
     clear hdl
     have hszw:=HM.m.d.sz
     have HM:=hide HM
     go_wp2_with fail
     go_region_law (first
      | (refine step_append_lies _ rfl _ _ 22 rfl w.heap.size 5 i8 (.int .u8 0) 1 1 Tryz.underlying22 hi8 hz0i8 hz1i8 hz2i8 rfl (by decide) (.slice M.a3 dz.length M.c3) dz.length (dz.map (Value.int .u8)) rfl HOW.out ⟨wa.heap.size,0,none⟩ 1 1 [.int .u8 (IntKind.u8.wrap (x.tmod 32))] rfl rfl HNW.out (by intro u hu;simp [clI,clT,clX] at hu;first | (subst hu;rfl) | (rcases hu with rfl | rfl | rfl <;> rfl)) (by decide) (by unfold maxLen;omega) (by omega) HSZ.out _ rfl ?_;intro g4 c4 w4 hown hgr hat hlt4;obtain ⟨p4,f4⟩:=HMA.out.cell4 HOW.out hgr (by decide) 3 (u:=.slice M.a3 dz.length M.c3) rfl)
      | (go_simp;go_at_call 51;refine (MR.next (w:=w) (g:=w4.heap.size+5) (q:=w.heap.size) (P:=⟨nm,T,B,dz,V % 64,[],[],[]⟩) (M:=M) (by first | exact HM.out | exact HM.out.drew) x EX).mono ?_;rintro e wa ⟨rfl,MA⟩;obtain ⟨pa,fa⟩:=MA.two 3 (.slice M.a3 dz.length M.c3) rfl;have HMA:=hide (MA.below (al_below wa (.cells #[.int .u8 (IntKind.u8.wrap (x.tmod 32))] 5)));obtain ⟨pb,fb⟩:=HMA.out.two 3 (.slice M.a3 dz.length M.c3) rfl;have HOW:=hide HMA.out.m.o.d.1;have HNW:=hide (cells_new wa _ 5 [.int .u8 (IntKind.u8.wrap (x.tmod 32))] rfl);have HSZ:=hide HMA.out.m.d.sz;clear MA))
     all_goals
      have HF:=hide (MR.data HMA.out HX8.out hown hgr)
      clear p2 f2 pa fa pb fb HMA HOW HNW HSZ hown hgr hat hlt4 HM
      go_wp2
      go_roundw
      case rel=>exact ⟨j2+1,_,by omega,by go_num,by rw [ES.out];exact HF.out⟩
      case measure=>simp [intOf];omega
    ·have hlt':¬ (j2:Int)<K / 4 % 5 * 4:=by omega
     have ejm:j2=md:=by omega
     rw [ejm] at HM
     have hdl:=dtL_len zs k2 md
     clear hlt hj2 ejm
     obtain ⟨dz,hdz⟩:∃ dz,dtL zs k2 md=dz:=⟨_,rfl⟩
     rw [hdz] at HM hdl
     have HDZ:=hide hdz
     clear hdz
     obtain ⟨p2,f2⟩:=HM.two 3 (.slice M.a3 dz.length M.c3) rfl
     obtain ⟨p5,f5⟩:=HM.two 5 (.slice M.a5 0 M.c5) rfl
     have hbl:=mr_bl HM
     dsimp only at hbl
     by_cases hc:4≤md∧V % 2=1
     ·have h4:(4:Int)≤(dz.length:Int):=by omega
      have hv:=hc.2
      have hrz1:=hide (show rz=[]++[0] by rw [hrz.out,if_pos hc];rfl)
      have HMA:=hide (HM.below (al_below wr2 (.cells #[.int .i64 0] 3)))
      have HOW:=hide HMA.out.m.o.r
      have HNW:=hide (cells_new wr2 _ 3 (clI 0) rfl)
      have HSZ:=hide HMA.out.m.d.sz
      clear HM hbl hdl hrz hc
      go_wp2_with (at_builtin;refine wpList_append_lies _ rfl _ _ 29 rfl w.heap.size 3 iI (.int .i64 0) 1 8 Tryz.underlying29 hiI hz0iI hz1iI hz2iI rfl (by decide) (.slice M.a5 0 M.c5) 0 [] rfl HOW.out ⟨wr2.heap.size,0,none⟩ 1 1 (clI 0) rfl rfl HNW.out (by intro u hu;simp [clI] at hu;subst hu;rfl) (by decide) (by unfold maxLen;omega) (by omega) HSZ.out _ rfl ?_;intro g4 c4 w5 hown hgr hat hlt4;obtain ⟨p4,f4⟩:=HMA.out.cell4 HOW.out hgr (by decide) 5 (u:=.slice M.a5 0 M.c5) rfl)
      have HF:=hide (MR.reloc (x:=0) HMA.out hown hgr hat)
      clear HMA HOW HNW HSZ hown hgr hat hlt4 h4 hv p2 f2 p5 f5
      go_wp2
      go_loopw [10] (fun i wr=>∃ (j:Nat) (M:Ma),j≤mb+1∧i=.int .i64 ((j:Int) - 1)∧MR w wr r a n c zs (k2+md) (w4.heap.size+5) w.heap.size ⟨nm,T,B,dz,V % 64,[]++[0],[],exL j⟩ M) (fun i _=>mb+1 - (intOf i+1).toNat)
      case atStart=>exact ⟨0,_,Nat.zero_le _,rfl,HF.out⟩
      case round=>
       obtain ⟨j3,M,hj3,rfl,HM⟩:=hrel
       generalize wr=wr3 at *
       clear HF
       have hbl:=mr_bl HM
       dsimp only at hbl
       rw [HBL.out] at hbl
       have hel:=exL_len j3
       have ES:=hide (exL_succ j3)
       have EE:=hide (show exL j3=exL j3 from rfl)
       obtain ⟨es,hes⟩:∃ es,es=exL j3:=⟨_,rfl⟩
       rw [← hes] at HM hel ES
       have HES:=hide hes
       clear hes EE
       obtain ⟨p2,f2⟩:=HM.two 2 (.slice M.a2 M.bl.length M.c2) rfl
       by_cases hlt:j3<mb+1
       ·have hlt':(j3:Int) - 1<(M.bl.length:Int):=by omega
        have hb3:es.length≤4:=by omega
        have h00:-1≤(j3:Int) - 1:=by omega
        have h01:(j3:Int) - 1≤3:=by omega
        clear hbl hel
        obtain ⟨p7,f7⟩:=HM.two 7 (.slice M.a7 es.length M.c7) rfl
        have hszw:=HM.m.d.sz
        have HM:=hide HM
        have HEX:=hide (fun W=>l4Export_any ((j3:Int) - 1) h00 h01 W)
        rw [show ((j3:Int) - 1+1).toNat=j3 by omega] at HEX
        obtain ⟨xn,hxn⟩:∃ xn,exN j3=xn:=⟨_,rfl⟩
        rw [hxn] at HEX ES
        clear hxn
        go_wp2_with fail
        go_region_law (first
         | (refine step_append_lies _ rfl _ _ 47 rfl w.heap.size 210 iX (.agg #[.string ⟨#[]⟩,.int .i64 0,.int .i64 0]) 3 32 Tryz.underlying47 hiX hz0iX hz1iX hz2iX rfl (by decide) (.slice M.a7 es.length M.c7) es.length (es.flatMap clX) rfl HOW.out ⟨wa.heap.size,0,none⟩ 1 1 (clX (xn,(j3:Int) - 1,0)) rfl rfl HNW.out (by intro u hu;simp [clI,clT,clX] at hu;first | (subst hu;rfl) | (rcases hu with rfl | rfl | rfl <;> rfl)) (by decide) (by unfold maxLen;omega) (by omega) HSZ.out _ rfl ?_;intro g4 c4 w4 hown hgr hat hlt4;obtain ⟨p4,f4⟩:=HMA.out.cell4 HOW.out hgr (by decide) 7 (u:=.slice M.a7 es.length M.c7) rfl)
         | (go_simp;go_at_call 196;refine (HEX.out _).mono ?_;rintro e wa ⟨rfl,hba⟩;have MA:=MR.below (w:=w) (k:=k2+md) (g:=w4.heap.size+5) (q:=w.heap.size) (P:=⟨nm,T,B,dz,V % 64,[]++[0],[],es⟩) (M:=M) (by first | exact HM.out | exact HM.out.drew) hba;obtain ⟨pa,fa⟩:=MA.two 7 (.slice M.a7 es.length M.c7) rfl;have HMA:=hide (MA.below (al_below wa (.cells #[.string xn,.int .i64 ((j3:Int) - 1),.int .i64 0] 210)));obtain ⟨pb,fb⟩:=HMA.out.two 7 (.slice M.a7 es.length M.c7) rfl;have HOW:=hide HMA.out.m.o.e;have HNW:=hide (cells_new wa _ 210 (clX (xn,(j3:Int) - 1,0)) rfl);have HSZ:=hide HMA.out.m.d.sz;clear MA hba))
        all_goals
         have HF:=hide (MR.exp (x:=(xn,(j3:Int) - 1,0)) HMA.out hown hgr)
         clear p2 f2 p7 f7 pa fa pb fb HMA HOW HNW HSZ hown hgr hat hlt4 HM HEX
         go_wp2
         go_roundw
         case rel=>exact ⟨j3+1,_,by omega,by first | go_num | (congr 1;omega),by rw [ES.out];exact HF.out⟩
         case measure=>simp [intOf];omega
       ·have hlt':¬ (j3:Int) - 1<(M.bl.length:Int):=by omega
        have HE1:=hide (show exL (mb+1)=es by rw [HES.out,show j3=mb+1 by omega])
        have hne:=HM.ne
        obtain ⟨b0,b1,b2,b3,b4,b5,b6,b7⟩:=HM.m.box.eight'
        obtain ⟨r0,r1,r2,r3,r4,r5,r6,r7⟩:=z8_cells HM.res
        obtain ⟨s0,s1,s2,s3,s4,s5,s6,s7⟩:=HM.res.froz
        clear hbl hel p2 f2
        have HM:=hide HM
        go_wp2
        refine modl_end HM.out.res rfl _ _ _ _ _ _ _ _ _ _ rfl ?_
        rw [HDZ.out,HE1.out,hrz1.out]
        exact ⟨M,rfl,HM.out.m.d.grow ((turn_st8 wr3 w.heap.size _ _ _ _ _ _ _ _).mono (fun j hj=>by subst hj;exact HM.out.hq)),HM.out.m.o.kept (turn_st8 wr3 w.heap.size _ _ _ _ _ _ _ _) (fun j hj=>.inr (by subst hj;exact ⟨_,HM.out.res⟩)),HM.out.m.ds⟩
     ·have hrz1:=hide (show rz=[] by rw [hrz.out,if_neg hc])
      have HF:=hide HM
      clear HM p5 f5 hbl
      by_cases h4:(4:Int)≤(dz.length:Int)
      ·have hv:¬ V % 2=1:=by omega
       clear hdl hrz hc
       go_wp2
       go_loopw [10] (fun i wr=>∃ (j:Nat) (M:Ma),j≤mb+1∧i=.int .i64 ((j:Int) - 1)∧MR w wr r a n c zs (k2+md) (w4.heap.size+5) w.heap.size ⟨nm,T,B,dz,V % 64,[],[],exL j⟩ M) (fun i _=>mb+1 - (intOf i+1).toNat)
       case atStart=>exact ⟨0,_,Nat.zero_le _,rfl,HF.out⟩
       case round=>
        obtain ⟨j3,M,hj3,rfl,HM⟩:=hrel
        generalize wr=wr3 at *
        clear HF
        have hbl:=mr_bl HM
        dsimp only at hbl
        rw [HBL.out] at hbl
        have hel:=exL_len j3
        have ES:=hide (exL_succ j3)
        have EE:=hide (show exL j3=exL j3 from rfl)
        obtain ⟨es,hes⟩:∃ es,es=exL j3:=⟨_,rfl⟩
        rw [← hes] at HM hel ES
        have HES:=hide hes
        clear hes EE
        obtain ⟨p2,f2⟩:=HM.two 2 (.slice M.a2 M.bl.length M.c2) rfl
        by_cases hlt:j3<mb+1
        ·have hlt':(j3:Int) - 1<(M.bl.length:Int):=by omega
         have hb3:es.length≤4:=by omega
         have h00:-1≤(j3:Int) - 1:=by omega
         have h01:(j3:Int) - 1≤3:=by omega
         clear hbl hel
         obtain ⟨p7,f7⟩:=HM.two 7 (.slice M.a7 es.length M.c7) rfl
         have hszw:=HM.m.d.sz
         have HM:=hide HM
         have HEX:=hide (fun W=>l4Export_any ((j3:Int) - 1) h00 h01 W)
         rw [show ((j3:Int) - 1+1).toNat=j3 by omega] at HEX
         obtain ⟨xn,hxn⟩:∃ xn,exN j3=xn:=⟨_,rfl⟩
         rw [hxn] at HEX ES
         clear hxn
         go_wp2_with fail
         go_region_law (first
          | (refine step_append_lies _ rfl _ _ 47 rfl w.heap.size 210 iX (.agg #[.string ⟨#[]⟩,.int .i64 0,.int .i64 0]) 3 32 Tryz.underlying47 hiX hz0iX hz1iX hz2iX rfl (by decide) (.slice M.a7 es.length M.c7) es.length (es.flatMap clX) rfl HOW.out ⟨wa.heap.size,0,none⟩ 1 1 (clX (xn,(j3:Int) - 1,0)) rfl rfl HNW.out (by intro u hu;simp [clI,clT,clX] at hu;first | (subst hu;rfl) | (rcases hu with rfl | rfl | rfl <;> rfl)) (by decide) (by unfold maxLen;omega) (by omega) HSZ.out _ rfl ?_;intro g4 c4 w4 hown hgr hat hlt4;obtain ⟨p4,f4⟩:=HMA.out.cell4 HOW.out hgr (by decide) 7 (u:=.slice M.a7 es.length M.c7) rfl)
          | (go_simp;go_at_call 196;refine (HEX.out _).mono ?_;rintro e wa ⟨rfl,hba⟩;have MA:=MR.below (w:=w) (k:=k2+md) (g:=w4.heap.size+5) (q:=w.heap.size) (P:=⟨nm,T,B,dz,V % 64,[],[],es⟩) (M:=M) (by first | exact HM.out | exact HM.out.drew) hba;obtain ⟨pa,fa⟩:=MA.two 7 (.slice M.a7 es.length M.c7) rfl;have HMA:=hide (MA.below (al_below wa (.cells #[.string xn,.int .i64 ((j3:Int) - 1),.int .i64 0] 210)));obtain ⟨pb,fb⟩:=HMA.out.two 7 (.slice M.a7 es.length M.c7) rfl;have HOW:=hide HMA.out.m.o.e;have HNW:=hide (cells_new wa _ 210 (clX (xn,(j3:Int) - 1,0)) rfl);have HSZ:=hide HMA.out.m.d.sz;clear MA hba))
         all_goals
          have HF:=hide (MR.exp (x:=(xn,(j3:Int) - 1,0)) HMA.out hown hgr)
          clear p2 f2 p7 f7 pa fa pb fb HMA HOW HNW HSZ hown hgr hat hlt4 HM HEX
          go_wp2
          go_roundw
          case rel=>exact ⟨j3+1,_,by omega,by first | go_num | (congr 1;omega),by rw [ES.out];exact HF.out⟩
          case measure=>simp [intOf];omega
        ·have hlt':¬ (j3:Int) - 1<(M.bl.length:Int):=by omega
         have HE1:=hide (show exL (mb+1)=es by rw [HES.out,show j3=mb+1 by omega])
         have hne:=HM.ne
         obtain ⟨b0,b1,b2,b3,b4,b5,b6,b7⟩:=HM.m.box.eight'
         obtain ⟨r0,r1,r2,r3,r4,r5,r6,r7⟩:=z8_cells HM.res
         obtain ⟨s0,s1,s2,s3,s4,s5,s6,s7⟩:=HM.res.froz
         clear hbl hel p2 f2
         have HM:=hide HM
         go_wp2
         refine modl_end HM.out.res rfl _ _ _ _ _ _ _ _ _ _ rfl ?_
         rw [HDZ.out,HE1.out,hrz1.out]
         exact ⟨M,rfl,HM.out.m.d.grow ((turn_st8 wr3 w.heap.size _ _ _ _ _ _ _ _).mono (fun j hj=>by subst hj;exact HM.out.hq)),HM.out.m.o.kept (turn_st8 wr3 w.heap.size _ _ _ _ _ _ _ _) (fun j hj=>.inr (by subst hj;exact ⟨_,HM.out.res⟩)),HM.out.m.ds⟩
      ·clear hdl hrz hc
       go_wp2
       go_loopw [10] (fun i wr=>∃ (j:Nat) (M:Ma),j≤mb+1∧i=.int .i64 ((j:Int) - 1)∧MR w wr r a n c zs (k2+md) (w4.heap.size+5) w.heap.size ⟨nm,T,B,dz,V % 64,[],[],exL j⟩ M) (fun i _=>mb+1 - (intOf i+1).toNat)
       case atStart=>exact ⟨0,_,Nat.zero_le _,rfl,HF.out⟩
       case round=>
        obtain ⟨j3,M,hj3,rfl,HM⟩:=hrel
        generalize wr=wr3 at *
        clear HF
        have hbl:=mr_bl HM
        dsimp only at hbl
        rw [HBL.out] at hbl
        have hel:=exL_len j3
        have ES:=hide (exL_succ j3)
        have EE:=hide (show exL j3=exL j3 from rfl)
        obtain ⟨es,hes⟩:∃ es,es=exL j3:=⟨_,rfl⟩
        rw [← hes] at HM hel ES
        have HES:=hide hes
        clear hes EE
        obtain ⟨p2,f2⟩:=HM.two 2 (.slice M.a2 M.bl.length M.c2) rfl
        by_cases hlt:j3<mb+1
        ·have hlt':(j3:Int) - 1<(M.bl.length:Int):=by omega
         have hb3:es.length≤4:=by omega
         have h00:-1≤(j3:Int) - 1:=by omega
         have h01:(j3:Int) - 1≤3:=by omega
         clear hbl hel
         obtain ⟨p7,f7⟩:=HM.two 7 (.slice M.a7 es.length M.c7) rfl
         have hszw:=HM.m.d.sz
         have HM:=hide HM
         have HEX:=hide (fun W=>l4Export_any ((j3:Int) - 1) h00 h01 W)
         rw [show ((j3:Int) - 1+1).toNat=j3 by omega] at HEX
         obtain ⟨xn,hxn⟩:∃ xn,exN j3=xn:=⟨_,rfl⟩
         rw [hxn] at HEX ES
         clear hxn
         go_wp2_with fail
         go_region_law (first
          | (refine step_append_lies _ rfl _ _ 47 rfl w.heap.size 210 iX (.agg #[.string ⟨#[]⟩,.int .i64 0,.int .i64 0]) 3 32 Tryz.underlying47 hiX hz0iX hz1iX hz2iX rfl (by decide) (.slice M.a7 es.length M.c7) es.length (es.flatMap clX) rfl HOW.out ⟨wa.heap.size,0,none⟩ 1 1 (clX (xn,(j3:Int) - 1,0)) rfl rfl HNW.out (by intro u hu;simp [clI,clT,clX] at hu;first | (subst hu;rfl) | (rcases hu with rfl | rfl | rfl <;> rfl)) (by decide) (by unfold maxLen;omega) (by omega) HSZ.out _ rfl ?_;intro g4 c4 w4 hown hgr hat hlt4;obtain ⟨p4,f4⟩:=HMA.out.cell4 HOW.out hgr (by decide) 7 (u:=.slice M.a7 es.length M.c7) rfl)
          | (go_simp;go_at_call 196;refine (HEX.out _).mono ?_;rintro e wa ⟨rfl,hba⟩;have MA:=MR.below (w:=w) (k:=k2+md) (g:=w4.heap.size+5) (q:=w.heap.size) (P:=⟨nm,T,B,dz,V % 64,[],[],es⟩) (M:=M) (by first | exact HM.out | exact HM.out.drew) hba;obtain ⟨pa,fa⟩:=MA.two 7 (.slice M.a7 es.length M.c7) rfl;have HMA:=hide (MA.below (al_below wa (.cells #[.string xn,.int .i64 ((j3:Int) - 1),.int .i64 0] 210)));obtain ⟨pb,fb⟩:=HMA.out.two 7 (.slice M.a7 es.length M.c7) rfl;have HOW:=hide HMA.out.m.o.e;have HNW:=hide (cells_new wa _ 210 (clX (xn,(j3:Int) - 1,0)) rfl);have HSZ:=hide HMA.out.m.d.sz;clear MA hba))
         all_goals
          have HF:=hide (MR.exp (x:=(xn,(j3:Int) - 1,0)) HMA.out hown hgr)
          clear p2 f2 p7 f7 pa fa pb fb HMA HOW HNW HSZ hown hgr hat hlt4 HM HEX
          go_wp2
          go_roundw
          case rel=>exact ⟨j3+1,_,by omega,by first | go_num | (congr 1;omega),by rw [ES.out];exact HF.out⟩
          case measure=>simp [intOf];omega
        ·have hlt':¬ (j3:Int) - 1<(M.bl.length:Int):=by omega
         have HE1:=hide (show exL (mb+1)=es by rw [HES.out,show j3=mb+1 by omega])
         have hne:=HM.ne
         obtain ⟨b0,b1,b2,b3,b4,b5,b6,b7⟩:=HM.m.box.eight'
         obtain ⟨r0,r1,r2,r3,r4,r5,r6,r7⟩:=z8_cells HM.res
         obtain ⟨s0,s1,s2,s3,s4,s5,s6,s7⟩:=HM.res.froz
         clear hbl hel p2 f2
         have HM:=hide HM
         go_wp2
         refine modl_end HM.out.res rfl _ _ _ _ _ _ _ _ _ _ rfl ?_
         rw [HDZ.out,HE1.out,hrz1.out]
         exact ⟨M,rfl,HM.out.m.d.grow ((turn_st8 wr3 w.heap.size _ _ _ _ _ _ _ _).mono (fun j hj=>by subst hj;exact HM.out.hq)),HM.out.m.o.kept (turn_st8 wr3 w.heap.size _ _ _ _ _ _ _ _) (fun j hj=>.inr (by subst hj;exact ⟨_,HM.out.res⟩)),HM.out.m.ds⟩
theorem bk_bound {C:Nat→List Int × Nat} {Q:List Int→Prop} (h:∀ q,Q (C q).1) (k:Nat) (j:Nat):∀ l ∈ (sq (bkC C) [] k j).1,Q l:=sq_all (F:=bkC C) (Q:=Q) (fun q l hl=>by simp [bkC] at hl;subst hl;exact h q) [] (by simp) k j
theorem exL_ok:∀ (j:Nat),j≤4→(exL j).length≤4∧∀ x ∈ exL j,x.1.size≤2∧-1≤x.2.1∧x.2.1≤3∧x.2.2=0:=by
 intro j hj
 refine ⟨by rw [exL_len];exact hj,fun x hx=>?_⟩
 unfold exL at hx
 rw [List.mem_map] at hx
 obtain ⟨q,hq,rfl⟩:=hx
 rw [List.mem_range] at hq
 refine ⟨?_,by dsimp only;omega,by dsimp only;omega,rfl⟩
 show (exN q).size≤2
 rcases (show q=0∨q=1∨q=2∨q=3 by omega) with rfl | rfl | rfl | rfl <;> decide
theorem l4Module_fn (zs:List Int) (hz:∀ j,0≤zs.getD j 0∧zs.getD j 0≤255) (i:Nat) (hi:i≤3) (k:Nat):∃ y:PMod × Nat,DmR i y.1∧ModFn zs k i y.1 y.2:=by
 obtain ⟨C,hC⟩:=Classical.axiomOfChoice (l4Code_fn zs hz)
 obtain ⟨K,E1,z0,z1⟩:=draw_of hz k
 obtain ⟨V,E2,y0,y1⟩:=draw_of hz (k+1)
 have hr:∀ b:Bool,(if b=true then [0] else ([]:List Int))=[]∨(if b=true then [0] else ([]:List Int))=[0]:=by decide
 obtain ⟨mb,hmb⟩:∃ m:Nat,(m:Int)=K % 4:=⟨(K % 4).toNat,by omega⟩
 obtain ⟨md,hmd⟩:∃ m:Nat,(m:Int)=K / 4 % 5 * 4:=⟨(K / 4 % 5 * 4).toNat,by omega⟩
 refine ⟨(_,_),⟨rfl,?_,⟨?_,?_⟩,⟨?_,?_⟩,?_,?_,rfl,?_⟩,l4Module_walk zs hz k i hi C (hide (fun q=>(hC q).2)) K V E1 E2 z0 z1 y0 y1 _ _ (rfl:C (k+2)=((C (k+2)).1,(C (k+2)).2)) mb md _ hmb hmd _ (rfl:sq (bkC C) [] (C (k+2)).2 mb=((sq (bkC C) [] (C (k+2)).2 mb).1,(sq (bkC C) [] (C (k+2)).2 mb).2)) (nmN i) rfl (if 4≤md∧V % 2=1 then [0] else []) rfl⟩
 ·exact (hC (k+2)).1
 ·show (sq (bkC C) [] (C (k+2)).2 mb).1.length≤3
  rw [bk_len];omega
 ·exact bk_bound (Q:=fun l=>l.length≤40∧∀ z ∈ l,0≤z∧z≤4294967295) (fun q=>⟨(hC q).1.1.2,(hC q).1.2⟩) _ _
 ·show (dtL zs _ md).length≤16
  rw [dtL_len];omega
 ·intro z hz'
  unfold dtL at hz'
  rw [List.mem_map] at hz'
  obtain ⟨q,_,rfl⟩:=hz'
  omega
 ·show 0≤V % 64∧V % 64≤63
  omega
 ·show (if 4≤md∧V % 2=1 then [0] else [])=[]∨(if 4≤md∧V % 2=1 then [0] else [])=[0]
  split
  ·exact .inr rfl
  ·exact .inl rfl
 ·exact exL_ok (mb+1) (by omega)
end Go.Proofs.YtngdgogjlpjjpadGreat
