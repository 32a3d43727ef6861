import Derived.Test.YtcimaholejajpaaGreatF19
set_option linter.all false
namespace Go.Proofs.YtcimaholejajpaaGreat
open Go.RowKit
open Go.Proofs.Tryz
set_option maxRecDepth 100000
variable {L:List (PMod×Ma)}{M:Ma}{P:PMod}{W W' w:World}{a:Option Addr}{base base' c cap g i k k' m n r:Nat}{v:Value}{x:PMod×Ma}{xs:List Value}{zs:List Int}
theorem aFw (x:Int)(h0:0<=x)(h1:x<=255):IntKind.u8.wrap x=x:=by
 unfold IntKind.wrap;simp [IntKind.bits,IntKind.signed];omega
def dtL (zs:qi)(k j:Nat):List Int:=(List.range j).map fun q=>zs.getD (k+q) 0%32
def exL (j:Nat):List Ex:=(List.range j).map fun q=>(exN q,(q:Int)-1,0)
def bkC (C:Nat->List Int×Nat)(q:Nat):List (List Int)×Nat:=([(C q).1],(C q).2)
theorem aH8 (zs:qi)(k j:Nat):dtL zs k (j+1)=dtL zs k j++[zs.getD (k+j) 0%32]:=by simp [dtL,List.range_succ]
theorem yZ (zs:qi)(k j:Nat):(dtL zs k j).length=j:=by simp [dtL]
theorem sT (j:Nat):exL (j+1)=exL j++[(exN j,(j:Int)-1,0)]:=by simp [exL,List.range_succ]
theorem pE (j:Nat):(exL j).length=j:=by simp [exL]
theorem aD9 (C:Nat->List Int×Nat)(k j:Nat):(sq (bkC C) [] k (j+1)).1=(sq (bkC C) [] k j).1++[(C (sq (bkC C) [] k j).2).1]/\(sq (bkC C) [] k (j+1)).2=(C (sq (bkC C) [] k j).2).2:=⟨rfl,rfl⟩
theorem zG (C:Nat->List Int×Nat)(k:Nat):∀ j,(sq (bkC C) [] k j).1.length=j
 | 0=>rfl
 | j+1=>by rw [(aD9 C k j).1,xI,zG C k j];rfl
theorem aAp {w W:qw}{a:qO}{zs:qi}{q:Nat}(h:MR w W r a n c zs k g q P M):M.bl.length=P.bl.length:=by rw [<- h.m.o.bls,xH]
set_option maxHeartbeats 8000000 in
theorem uD (zs:qi)(hz:∀ j,0<=zs.getD j 0/\zs.getD j 0<=255)(k i:Nat)(hi:i<=3)(C:Nat->List Int×Nat)(HC:Hid (∀ q,zN zs q (C q).1 (C q).2))(K V:Int)(E1:Hid (zs.getD k 0=K))(E2:Hid (zs.getD (k+1) 0=V))(z0:0<=K)(z1:K<=255)(y0:0<=V)(y1:V<=255)(T:qi)(k1:Nat)(HT:Hid (C (k+2)=(T,k1)))(mb md k2:Nat)(hmb:(mb:Int)=K%4)(hmd:(md:Int)=K/4%5*4)(B:List (List Int))(HB:Hid (sq (bkC C) [] k1 mb=(B,k2)))(nm:ByteArray)(HNM:Hid (nmN i=nm))(rz:qi)(hrz:Hid (rz=if 4<=md/\V%2=1 then [0] else [])):
 aEe zs k i ⟨nm,T,B,dtL zs k2 md,V%64,rz,[],exL (mb+1)⟩ (k2+md):=by
 intro w r a n c h;have hB0:qY w (w.alloc (.cells #[.string ⟨#[]⟩,qS none 0 0,qS none 0 0,qS none 0 0,qI 0,qS none 0 0,qS none 0 0,qS none 0 0] 53)):=bal;have D0:=h.bw hB0;have R0:Blk _ w.heap.size z8 53:=Blk.new w #[.string ⟨#[]⟩,qS none 0 0,qS none 0 0,qS none 0 0,qI 0,qS none 0 0,qS none 0 0,qS none 0 0] 53;have hlt:=h.lt;have HZ:=zh hz;obtain ⟨iB,hiB,hz0iB,hz1iB,hz2iB⟩:=info_parts aDy;obtain ⟨i8,hi8,hz0i8,hz1i8,hz2i8⟩:=info_parts gW;obtain ⟨iI,hiI,hz0iI,hz1iI,hz2iI⟩:=info_parts gG;obtain ⟨iX,hiX,hz0iX,hz1iX,hz2iX⟩:=info_parts aDv;clear h hB0 hz;go_enter func65,ntmps65
 go_wp2_with fail
 refine (D0.next K E1).mono ?_;rintro e w1 ⟨rfl,D1,t1⟩;have R1:=aA t1 R0 (by omega);clear D0 R0 t1;go_wp2_with fail
 refine (D1.next V E2).mono ?_;rintro e w2 ⟨rfl,D2,t2⟩;have R2:=aA t2 R1 (by omega);clear D1 R1 t2;go_wp2_with fail
 refine (aCf i hi _).mono ?_;rintro e w3 ⟨rfl,hb3⟩;rw [HNM.out];have D3:=D2.bw hb3;have R3:=R2.bw hb3;clear D2 R2 hb3;have CC:=HC.out (k+2);rw [HT.out] at CC;have CC':=zh (CC w3 r a n c (by have:=D3.fresh;rw [Nat.add_assoc] at this;exact this));clear CC;go_wp2_with fail
 refine CC'.o.mono ?_;rintro e w4 ⟨v4,rfl,L4⟩;obtain ⟨a1,c1,rfl⟩:=aO L4.o;have hs3:=D3.sz;have R4:=aA L4.d.t R3 (by have:=D3.lt;omega);have HM0:=zh (aMj (D3.trans L4.d) (L4.o.mono hs3) R4 nm (V%64));clear CC' L4 R3 D3 R4 hs3 hlt;go_wp2;go_loopw [8] (fun i wr=>∃ (j:Nat) (M:Ma),j<=mb/\i=qI j/\MR w wr r a n c zs (sq (bkC C) [] k1 j).2 (w4.heap.size+5) w.heap.size ⟨nm,T,(sq (bkC C) [] k1 j).1,[],V%64,[],[],[]⟩ M) (qf mb)
 .exact ⟨0,_,xC _,rfl,HM0.o⟩
 .obtain ⟨j,M,hj,rfl,HM⟩:=hrel;generalize wr=wr1 at *;clear HM0;by_cases hlt:j<mb
  .have hlt':(j:Int)<K%4:=by omega
   obtain ⟨p2,f2⟩:=HM.two 2 (qS M.a2 M.bl.length M.c2) rfl;have hbl:=aAp HM;dsimp only at hbl;rw [zG] at hbl;have hb3:M.bl.length<=3:=by omega
   clear hbl;have hszw:=HM.m.d.sz;have HM:=zh HM;have EK:=zh (aD9 C k1 j);have HCk:=zh (HC.out (sq (bkC C) [] k1 j).2);generalize (sq (bkC C) [] k1 j).1=Bj at *;generalize (sq (bkC C) [] k1 j).2=kj at *;obtain ⟨x,k',hx⟩:∃ x k',C kj=(x,k'):=⟨_,_,rfl⟩;rw [hx] at EK HCk;dsimp only at HCk;have EK1:=zh EK.o.1;have EK2:=zh EK.o.2;clear hx EK;go_wp2_with fail
   go_region_law (first
    | (refine step_append_lies _ rfl _ _ 49 rfl w.heap.size 29 iB (qS none 0 0) 1 24 underlying49 hiB hz0iB hz1iB hz2iB rfl (by decide) (qS M.a2 M.bl.length M.c2) M.bl.length (M.bl.map fun B=>qS B.1 B.2.1 B.2.2.1) rfl HOW.o (qR wa.heap.size 0) 1 1 [qS A x.length Cp] rfl rfl HNW.o (by intro u hu;simp [clI,clT,clX] at hu;first|(subst hu;rfl)|(rcases hu with rfl|rfl|rfl<;>rfl)) (by decide) (by unfold maxLen;omega) (by omega) HSZ.o _ rfl ?_;intro g4 c4 w4 hown hgr hat hlt4;obtain ⟨p4,f4⟩:=HMA.o.cell4 HOW.o hgr (by decide) 2 (u:=qS M.a2 M.bl.length M.c2) rfl)
    | (go_simp;go_at_call 118;refine (MR.code (w:=w) (g:=w4.heap.size+5) (q:=w.heap.size) (P:=⟨nm,T,Bj,[],V%64,[],[],[]⟩) (M:=M) (by first|exact HM.o|exact HM.o.drew) HCk.o).mono ?_;rintro e wa ⟨A,Cp,rfl,ox,MA⟩;have HOX:=zh (xA ox MA);obtain ⟨pa,fa⟩:=MA.two 2 (qS M.a2 M.bl.length M.c2) rfl;have HMA:=zh (MA.bw (aU wa (.cells #[qS A x.length Cp] 29)));obtain ⟨pb,fb⟩:=HMA.o.two 2 (qS M.a2 M.bl.length M.c2) rfl;have HOW:=zh HMA.o.m.o.b.head;have HNW:=zh (aN wa _ 29 [qS A x.length Cp] rfl);have HSZ:=zh HMA.o.m.d.sz;clear ox MA))
   all_goals
    have HF:=zh (MR.bank HM.o HOX.o.2 HOX.o.1 hown hgr);clear p2 f2 pa fa pb fb HOX HMA HOW HNW HSZ hown hgr hat hlt4 HM HCk;go_wp2
    go_roundw
    .exact ⟨j+1,_,by omega,by go_num,by rw [EK1.o,EK2.o];exact HF.o⟩
    .simp [qf,intOf];omega
  .have hlt':¬ (j:Int)<K%4:=by omega
   have ejm:j=mb:=by omega
   rw [ejm,HB.out] at HM;dsimp only at HM;have hBl:B.length=mb:=by have:=zG C k1 mb;rw [HB.out] at this;exact this
   have HBL:=zh hBl;have HM1:=zh HM;clear hlt hj HC HT HB ejm hBl HM;go_wp2;go_loopw [9] (fun i wr=>∃ (j:Nat) (M:Ma),j<=md/\i=qI j/\MR w wr r a n c zs (k2+j) (w4.heap.size+5) w.heap.size ⟨nm,T,B,dtL zs k2 j,V%64,[],[],[]⟩ M) (qf md)
   .exact ⟨0,_,xC _,rfl,HM1.o⟩
   .obtain ⟨j2,M,hj2,rfl,HM⟩:=hrel;generalize wr=wr2 at *;clear HM1;by_cases hlt:j2<md
    .have hlt':(j2:Int)<K/4%5*4:=by omega
     obtain ⟨x,EX,x0,x1⟩:=aR HZ.o (k2+j2);have e8:IntKind.u8.wrap (x.tmod 32)=x%32:=by rw [xL x0];exact aFw _ (by omega) (by omega)
     have HX8:=zh (show 0<=IntKind.u8.wrap (x.tmod 32)/\IntKind.u8.wrap (x.tmod 32)<=255 by rw [e8];omega);have ES:=zh (show dtL zs k2 (j2+1)=dtL zs k2 j2++[IntKind.u8.wrap (x.tmod 32)] by rw [e8,aH8,EX.out]);clear e8;have hdl:=yZ zs k2 j2;generalize dtL zs k2 j2=dz at *;obtain ⟨p2,f2⟩:=HM.two 3 (qS M.a3 dz.length M.c3) rfl;have hb3:dz.length<=16:=by omega
     clear hdl;have hszw:=HM.m.d.sz;have HM:=zh HM;go_wp2_with fail
     go_region_law (first
      | (refine step_append_lies _ rfl _ _ 22 rfl w.heap.size 5 i8 (.int .u8 0) 1 1 underlying22 hi8 hz0i8 hz1i8 hz2i8 rfl (by decide) (qS M.a3 dz.length M.c3) dz.length (dz.map (Value.int .u8)) rfl HOW.o (qR wa.heap.size 0) 1 1 [.int .u8 (IntKind.u8.wrap (x.tmod 32))] rfl rfl HNW.o (by intro u hu;simp [clI,clT,clX] at hu;first|(subst hu;rfl)|(rcases hu with rfl|rfl|rfl<;>rfl)) (by decide) (by unfold maxLen;omega) (by omega) HSZ.o _ rfl ?_;intro g4 c4 w4 hown hgr hat hlt4;obtain ⟨p4,f4⟩:=HMA.o.cell4 HOW.o hgr (by decide) 3 (u:=qS M.a3 dz.length M.c3) rfl)
      | (go_simp;go_at_call 10;refine (MR.next (w:=w) (g:=w4.heap.size+5) (q:=w.heap.size) (P:=⟨nm,T,B,dz,V%64,[],[],[]⟩) (M:=M) (by first|exact HM.o|exact HM.o.drew) x EX).mono ?_;rintro e wa ⟨rfl,MA⟩;obtain ⟨pa,fa⟩:=MA.two 3 (qS M.a3 dz.length M.c3) rfl;have HMA:=zh (MA.bw (aU wa (.cells #[.int .u8 (IntKind.u8.wrap (x.tmod 32))] 5)));obtain ⟨pb,fb⟩:=HMA.o.two 3 (qS M.a3 dz.length M.c3) rfl;have HOW:=zh HMA.o.m.o.d.1;have HNW:=zh (aN wa _ 5 [.int .u8 (IntKind.u8.wrap (x.tmod 32))] rfl);have HSZ:=zh HMA.o.m.d.sz;clear MA))
     all_goals
      have HF:=zh (MR.data HMA.o HX8.o hown hgr);clear p2 f2 pa fa pb fb HMA HOW HNW HSZ hown hgr hat hlt4 HM;go_wp2
      go_roundw
      .exact ⟨j2+1,_,by omega,by go_num,by rw [ES.o];exact HF.o⟩
      .simp [qf,intOf];omega
    .have hlt':¬ (j2:Int)<K/4%5*4:=by omega
     have ejm:j2=md:=by omega
     rw [ejm] at HM;have hdl:=yZ zs k2 md;clear hlt hj2 ejm;obtain ⟨dz,hdz⟩:∃ dz,dtL zs k2 md=dz:=⟨_,rfl⟩;rw [hdz] at HM hdl;have HDZ:=zh hdz;clear hdz;obtain ⟨p2,f2⟩:=HM.two 3 (qS M.a3 dz.length M.c3) rfl;obtain ⟨p5,f5⟩:=HM.two 5 (qS M.a5 0 M.c5) rfl;have hbl:=aAp HM;dsimp only at hbl;by_cases hc:4<=md/\V%2=1
     .have h4:(4:Int)<=(dz.length:Int):=by omega
      have hv:=hc.2;have hrz1:=zh (show rz=[]++[0] by rw [hrz.out,if_pos hc];rfl);have HMA:=zh (HM.bw (aU wr2 (.cells #[qI 0] 3)));have HOW:=zh HMA.o.m.o.r;have HNW:=zh (aN wr2 _ 3 (clI 0) rfl);have HSZ:=zh HMA.o.m.d.sz;clear HM hbl hdl hrz hc;go_wp2_with (at_builtin;refine wpList_append_lies _ rfl _ _ 29 rfl w.heap.size 3 iI (qI 0) 1 8 underlying29 hiI hz0iI hz1iI hz2iI rfl (by decide) (qS M.a5 0 M.c5) 0 [] rfl HOW.o (qR wr2.heap.size 0) 1 1 (clI 0) rfl rfl HNW.o (by intro u hu;simp [clI] at hu;subst hu;rfl) (by decide) (by unfold maxLen;omega) (by omega) HSZ.o _ rfl ?_;intro g4 c4 w5 hown hgr hat hlt4;obtain ⟨p4,f4⟩:=HMA.o.cell4 HOW.o hgr (by decide) 5 (u:=qS M.a5 0 M.c5) rfl)
      have HF:=zh (MR.reloc (x:=0) HMA.o hown hgr hat);clear HMA HOW HNW HSZ hown hgr hat hlt4 h4 hv p2 f2 p5 f5;go_wp2;go_loopw [10] (fun i wr=>∃ (j:Nat) (M:Ma),j<=mb+1/\i=qI ((j:Int)-1)/\MR w wr r a n c zs (k2+md) (w4.heap.size+5) w.heap.size ⟨nm,T,B,dz,V%64,[]++[0],[],exL j⟩ M) (fun i _=>mb+1-(intOf i+1).toNat)
      .exact ⟨0,_,xC _,rfl,HF.o⟩
      .obtain ⟨j3,M,hj3,rfl,HM⟩:=hrel;generalize wr=wr3 at *;clear HF;have hbl:=aAp HM;dsimp only at hbl;rw [HBL.o] at hbl;have hel:=pE j3;have ES:=zh (sT j3);have EE:Zh (exL j3=exL j3):=rfl;obtain ⟨es,hes⟩:=eqx (exL j3);rw [<- hes] at HM hel ES;have HES:=zh hes;clear hes EE;obtain ⟨p2,f2⟩:=HM.two 2 (qS M.a2 M.bl.length M.c2) rfl;by_cases hlt:j3<mb+1
       .have hlt':(j3:Int)-1<(M.bl.length:Int):=by omega
        have hb3:es.length<=4:=by omega
        have h00:-1<=(j3:Int)-1:=by omega
        have h01:(j3:Int)-1<=3:=by omega
        clear hbl hel;obtain ⟨p7,f7⟩:=HM.two 7 (qS M.a7 es.length M.c7) rfl;have hszw:=HM.m.d.sz;have HM:=zh HM;have HEX:=zh (fun W=>eZ ((j3:Int)-1) h00 h01 W);rw [show ((j3:Int)-1+1).toNat=j3 by omega] at HEX;obtain ⟨xn,hxn⟩:∃ xn,exN j3=xn:=⟨_,rfl⟩;rw [hxn] at HEX ES;clear hxn;go_wp2_with fail
        go_region_law (first
         | (refine step_append_lies _ rfl _ _ 51 rfl w.heap.size 91 iX (.agg #[.string ⟨#[]⟩,qI 0,qI 0]) 3 32 underlying51 hiX hz0iX hz1iX hz2iX rfl (by decide) (qS M.a7 es.length M.c7) es.length (es.flatMap clX) rfl HOW.o (qR wa.heap.size 0) 1 1 (clX (xn,(j3:Int)-1,0)) rfl rfl HNW.o (by intro u hu;simp [clI,clT,clX] at hu;first|(subst hu;rfl)|(rcases hu with rfl|rfl|rfl<;>rfl)) (by decide) (by unfold maxLen;omega) (by omega) HSZ.o _ rfl ?_;intro g4 c4 w4 hown hgr hat hlt4;obtain ⟨p4,f4⟩:=HMA.o.cell4 HOW.o hgr (by decide) 7 (u:=qS M.a7 es.length M.c7) rfl)
         | (go_simp;go_at_call 66;refine (HEX.o _).mono ?_;rintro e wa ⟨rfl,hba⟩;have MA:=MR.bw (w:=w) (k:=k2+md) (g:=w4.heap.size+5) (q:=w.heap.size) (P:=⟨nm,T,B,dz,V%64,[]++[0],[],es⟩) (M:=M) (by first|exact HM.o|exact HM.o.drew) hba;obtain ⟨pa,fa⟩:=MA.two 7 (qS M.a7 es.length M.c7) rfl;have HMA:=zh (MA.bw (aU wa (.cells #[.string xn,qI ((j3:Int)-1),qI 0] 91)));obtain ⟨pb,fb⟩:=HMA.o.two 7 (qS M.a7 es.length M.c7) rfl;have HOW:=zh HMA.o.m.o.e;have HNW:=zh (aN wa _ 91 (clX (xn,(j3:Int)-1,0)) rfl);have HSZ:=zh HMA.o.m.d.sz;clear MA hba))
        all_goals
         have HF:=zh (MR.exp (x:=(xn,(j3:Int)-1,0)) HMA.o hown hgr);clear p2 f2 p7 f7 pa fa pb fb HMA HOW HNW HSZ hown hgr hat hlt4 HM HEX;go_wp2
         go_roundw
         .exact ⟨j3+1,_,by omega,by first|go_num|(congr 1;omega),by rw [ES.o];exact HF.o⟩
         .simp [qf,intOf];omega
       .have hlt':¬ (j3:Int)-1<(M.bl.length:Int):=by omega
        have HE1:=zh (show exL (mb+1)=es by rw [HES.o,show j3=mb+1 by omega]);have hne:=HM.ne;obtain ⟨b0,b1,b2,b3,b4,b5,b6,b7⟩:=HM.m.box.eight';obtain ⟨r0,r1,r2,r3,r4,r5,r6,r7⟩:=aY HM.res;obtain ⟨s0,s1,s2,s3,s4,s5,s6,s7⟩:=HM.res.froz;clear hbl hel p2 f2;have HM:=zh HM;go_wp2;refine rU HM.o.res rfl _ _ _ _ _ _ _ _ _ _ rfl ?_;rw [HDZ.o,HE1.o,hrz1.o];exact ⟨M,rfl,HM.o.m.d.grow ((cS wr3 w.heap.size _ _ _ _ _ _ _ _).mono (fun j hj=>by subst hj;exact HM.o.hq)),HM.o.m.o.kept (cS wr3 w.heap.size _ _ _ _ _ _ _ _) (fun j hj=>.inr (by subst hj;exact ⟨_,HM.o.res⟩)),HM.o.m.ds⟩
     .have hrz1:=zh (show rz=[] by rw [hrz.out,if_neg hc]);have HF:=zh HM;clear HM p5 f5 hbl;by_cases h4:(4:Int)<=(dz.length:Int)
      .have hv:¬ V%2=1:=by omega
       clear hdl hrz hc;go_wp2;go_loopw [10] (fun i wr=>∃ (j:Nat) (M:Ma),j<=mb+1/\i=qI ((j:Int)-1)/\MR w wr r a n c zs (k2+md) (w4.heap.size+5) w.heap.size ⟨nm,T,B,dz,V%64,[],[],exL j⟩ M) (fun i _=>mb+1-(intOf i+1).toNat)
       .exact ⟨0,_,xC _,rfl,HF.o⟩
       .obtain ⟨j3,M,hj3,rfl,HM⟩:=hrel;generalize wr=wr3 at *;clear HF;have hbl:=aAp HM;dsimp only at hbl;rw [HBL.o] at hbl;have hel:=pE j3;have ES:=zh (sT j3);have EE:Zh (exL j3=exL j3):=rfl;obtain ⟨es,hes⟩:=eqx (exL j3);rw [<- hes] at HM hel ES;have HES:=zh hes;clear hes EE;obtain ⟨p2,f2⟩:=HM.two 2 (qS M.a2 M.bl.length M.c2) rfl;by_cases hlt:j3<mb+1
        .have hlt':(j3:Int)-1<(M.bl.length:Int):=by omega
         have hb3:es.length<=4:=by omega
         have h00:-1<=(j3:Int)-1:=by omega
         have h01:(j3:Int)-1<=3:=by omega
         clear hbl hel;obtain ⟨p7,f7⟩:=HM.two 7 (qS M.a7 es.length M.c7) rfl;have hszw:=HM.m.d.sz;have HM:=zh HM;have HEX:=zh (fun W=>eZ ((j3:Int)-1) h00 h01 W);rw [show ((j3:Int)-1+1).toNat=j3 by omega] at HEX;obtain ⟨xn,hxn⟩:∃ xn,exN j3=xn:=⟨_,rfl⟩;rw [hxn] at HEX ES;clear hxn;go_wp2_with fail
         go_region_law (first
          | (refine step_append_lies _ rfl _ _ 51 rfl w.heap.size 91 iX (.agg #[.string ⟨#[]⟩,qI 0,qI 0]) 3 32 underlying51 hiX hz0iX hz1iX hz2iX rfl (by decide) (qS M.a7 es.length M.c7) es.length (es.flatMap clX) rfl HOW.o (qR wa.heap.size 0) 1 1 (clX (xn,(j3:Int)-1,0)) rfl rfl HNW.o (by intro u hu;simp [clI,clT,clX] at hu;first|(subst hu;rfl)|(rcases hu with rfl|rfl|rfl<;>rfl)) (by decide) (by unfold maxLen;omega) (by omega) HSZ.o _ rfl ?_;intro g4 c4 w4 hown hgr hat hlt4;obtain ⟨p4,f4⟩:=HMA.o.cell4 HOW.o hgr (by decide) 7 (u:=qS M.a7 es.length M.c7) rfl)
          | (go_simp;go_at_call 66;refine (HEX.o _).mono ?_;rintro e wa ⟨rfl,hba⟩;have MA:=MR.bw (w:=w) (k:=k2+md) (g:=w4.heap.size+5) (q:=w.heap.size) (P:=⟨nm,T,B,dz,V%64,[],[],es⟩) (M:=M) (by first|exact HM.o|exact HM.o.drew) hba;obtain ⟨pa,fa⟩:=MA.two 7 (qS M.a7 es.length M.c7) rfl;have HMA:=zh (MA.bw (aU wa (.cells #[.string xn,qI ((j3:Int)-1),qI 0] 91)));obtain ⟨pb,fb⟩:=HMA.o.two 7 (qS M.a7 es.length M.c7) rfl;have HOW:=zh HMA.o.m.o.e;have HNW:=zh (aN wa _ 91 (clX (xn,(j3:Int)-1,0)) rfl);have HSZ:=zh HMA.o.m.d.sz;clear MA hba))
         all_goals
          have HF:=zh (MR.exp (x:=(xn,(j3:Int)-1,0)) HMA.o hown hgr);clear p2 f2 p7 f7 pa fa pb fb HMA HOW HNW HSZ hown hgr hat hlt4 HM HEX;go_wp2
          go_roundw
          .exact ⟨j3+1,_,by omega,by first|go_num|(congr 1;omega),by rw [ES.o];exact HF.o⟩
          .simp [qf,intOf];omega
        .have hlt':¬ (j3:Int)-1<(M.bl.length:Int):=by omega
         have HE1:=zh (show exL (mb+1)=es by rw [HES.o,show j3=mb+1 by omega]);have hne:=HM.ne;obtain ⟨b0,b1,b2,b3,b4,b5,b6,b7⟩:=HM.m.box.eight';obtain ⟨r0,r1,r2,r3,r4,r5,r6,r7⟩:=aY HM.res;obtain ⟨s0,s1,s2,s3,s4,s5,s6,s7⟩:=HM.res.froz;clear hbl hel p2 f2;have HM:=zh HM;go_wp2;refine rU HM.o.res rfl _ _ _ _ _ _ _ _ _ _ rfl ?_;rw [HDZ.o,HE1.o,hrz1.o];exact ⟨M,rfl,HM.o.m.d.grow ((cS wr3 w.heap.size _ _ _ _ _ _ _ _).mono (fun j hj=>by subst hj;exact HM.o.hq)),HM.o.m.o.kept (cS wr3 w.heap.size _ _ _ _ _ _ _ _) (fun j hj=>.inr (by subst hj;exact ⟨_,HM.o.res⟩)),HM.o.m.ds⟩
      .clear hdl hrz hc;go_wp2;go_loopw [10] (fun i wr=>∃ (j:Nat) (M:Ma),j<=mb+1/\i=qI ((j:Int)-1)/\MR w wr r a n c zs (k2+md) (w4.heap.size+5) w.heap.size ⟨nm,T,B,dz,V%64,[],[],exL j⟩ M) (fun i _=>mb+1-(intOf i+1).toNat)
       .exact ⟨0,_,xC _,rfl,HF.o⟩
       .obtain ⟨j3,M,hj3,rfl,HM⟩:=hrel;generalize wr=wr3 at *;clear HF;have hbl:=aAp HM;dsimp only at hbl;rw [HBL.o] at hbl;have hel:=pE j3;have ES:=zh (sT j3);have EE:Zh (exL j3=exL j3):=rfl;obtain ⟨es,hes⟩:=eqx (exL j3);rw [<- hes] at HM hel ES;have HES:=zh hes;clear hes EE;obtain ⟨p2,f2⟩:=HM.two 2 (qS M.a2 M.bl.length M.c2) rfl;by_cases hlt:j3<mb+1
        .have hlt':(j3:Int)-1<(M.bl.length:Int):=by omega
         have hb3:es.length<=4:=by omega
         have h00:-1<=(j3:Int)-1:=by omega
         have h01:(j3:Int)-1<=3:=by omega
         clear hbl hel;obtain ⟨p7,f7⟩:=HM.two 7 (qS M.a7 es.length M.c7) rfl;have hszw:=HM.m.d.sz;have HM:=zh HM;have HEX:=zh (fun W=>eZ ((j3:Int)-1) h00 h01 W);rw [show ((j3:Int)-1+1).toNat=j3 by omega] at HEX;obtain ⟨xn,hxn⟩:∃ xn,exN j3=xn:=⟨_,rfl⟩;rw [hxn] at HEX ES;clear hxn;go_wp2_with fail
         go_region_law (first
          | (refine step_append_lies _ rfl _ _ 51 rfl w.heap.size 91 iX (.agg #[.string ⟨#[]⟩,qI 0,qI 0]) 3 32 underlying51 hiX hz0iX hz1iX hz2iX rfl (by decide) (qS M.a7 es.length M.c7) es.length (es.flatMap clX) rfl HOW.o (qR wa.heap.size 0) 1 1 (clX (xn,(j3:Int)-1,0)) rfl rfl HNW.o (by intro u hu;simp [clI,clT,clX] at hu;first|(subst hu;rfl)|(rcases hu with rfl|rfl|rfl<;>rfl)) (by decide) (by unfold maxLen;omega) (by omega) HSZ.o _ rfl ?_;intro g4 c4 w4 hown hgr hat hlt4;obtain ⟨p4,f4⟩:=HMA.o.cell4 HOW.o hgr (by decide) 7 (u:=qS M.a7 es.length M.c7) rfl)
          | (go_simp;go_at_call 66;refine (HEX.o _).mono ?_;rintro e wa ⟨rfl,hba⟩;have MA:=MR.bw (w:=w) (k:=k2+md) (g:=w4.heap.size+5) (q:=w.heap.size) (P:=⟨nm,T,B,dz,V%64,[],[],es⟩) (M:=M) (by first|exact HM.o|exact HM.o.drew) hba;obtain ⟨pa,fa⟩:=MA.two 7 (qS M.a7 es.length M.c7) rfl;have HMA:=zh (MA.bw (aU wa (.cells #[.string xn,qI ((j3:Int)-1),qI 0] 91)));obtain ⟨pb,fb⟩:=HMA.o.two 7 (qS M.a7 es.length M.c7) rfl;have HOW:=zh HMA.o.m.o.e;have HNW:=zh (aN wa _ 91 (clX (xn,(j3:Int)-1,0)) rfl);have HSZ:=zh HMA.o.m.d.sz;clear MA hba))
         all_goals
          have HF:=zh (MR.exp (x:=(xn,(j3:Int)-1,0)) HMA.o hown hgr);clear p2 f2 p7 f7 pa fa pb fb HMA HOW HNW HSZ hown hgr hat hlt4 HM HEX;go_wp2
          go_roundw
          .exact ⟨j3+1,_,by omega,by first|go_num|(congr 1;omega),by rw [ES.o];exact HF.o⟩
          .simp [qf,intOf];omega
        .have hlt':¬ (j3:Int)-1<(M.bl.length:Int):=by omega
         have HE1:=zh (show exL (mb+1)=es by rw [HES.o,show j3=mb+1 by omega]);have hne:=HM.ne;obtain ⟨b0,b1,b2,b3,b4,b5,b6,b7⟩:=HM.m.box.eight';obtain ⟨r0,r1,r2,r3,r4,r5,r6,r7⟩:=aY HM.res;obtain ⟨s0,s1,s2,s3,s4,s5,s6,s7⟩:=HM.res.froz;clear hbl hel p2 f2;have HM:=zh HM;go_wp2;refine rU HM.o.res rfl _ _ _ _ _ _ _ _ _ _ rfl ?_;rw [HDZ.o,HE1.o,hrz1.o];exact ⟨M,rfl,HM.o.m.d.grow ((cS wr3 w.heap.size _ _ _ _ _ _ _ _).mono (fun j hj=>by subst hj;exact HM.o.hq)),HM.o.m.o.kept (cS wr3 w.heap.size _ _ _ _ _ _ _ _) (fun j hj=>.inr (by subst hj;exact ⟨_,HM.o.res⟩)),HM.o.m.ds⟩
theorem aIg {C:Nat->List Int×Nat}{Q:List Int->Prop}(h:∀ q,Q (C q).1)(k:Nat)(j:Nat):∀ l∈(sq (bkC C) [] k j).1,Q l:=aBs (F:=bkC C) (Q:=Q) (fun q l hl=>by simp [bkC] at hl;subst hl;exact h q) [] (by simp) k j
theorem aMw:∀ (j:Nat),j<=4->(exL j).length<=4/\∀ x∈exL j,x.1.size<=2/\-1<=x.2.1/\x.2.1<=3/\x.2.2=0:=by
 intro j hj;refine ⟨by rw [pE];exact hj,fun x hx=>?_⟩;unfold exL at hx;rw [List.mem_map] at hx;obtain ⟨q,hq,rfl⟩:=hx;rw [List.mem_range] at hq;refine ⟨?_,by dsimp only;omega,by dsimp only;omega,rfl⟩;show (exN q).size<=2;rcases (show q=0\/q=1\/q=2\/q=3 by omega) with rfl|rfl|rfl|rfl<;>decide
theorem aAw (zs:qi)(hz:∀ j,0<=zs.getD j 0/\zs.getD j 0<=255)(i:Nat)(hi:i<=3)(k:Nat):∃ y:PMod×Nat,DmR i y.1/\aEe zs k i y.1 y.2:=by
 obtain ⟨C,hC⟩:=Classical.axiomOfChoice (aFc zs hz);obtain ⟨K,E1,z0,z1⟩:=aR hz k;obtain ⟨V,E2,y0,y1⟩:=aR hz (k+1);have hr:∀ b:Bool,(if b=true then [0] else ([]:qi))=[]\/(if b=true then [0] else ([]:qi))=[0]:=by decide
 obtain ⟨mb,hmb⟩:∃ m:Nat,(m:Int)=K%4:=⟨(K%4).toNat,by omega⟩;obtain ⟨md,hmd⟩:∃ m:Nat,(m:Int)=K/4%5*4:=⟨(K/4%5*4).toNat,by omega⟩;refine ⟨(_,_),⟨rfl,?_,⟨?_,?_⟩,⟨?_,?_⟩,?_,?_,rfl,?_⟩,uD zs hz k i hi C (zh (fun q=>(hC q).2)) K V E1 E2 z0 z1 y0 y1 _ _ (rfl:C (k+2)=((C (k+2)).1,(C (k+2)).2)) mb md _ hmb hmd _ (rfl:sq (bkC C) [] (C (k+2)).2 mb=((sq (bkC C) [] (C (k+2)).2 mb).1,(sq (bkC C) [] (C (k+2)).2 mb).2)) (nmN i) rfl (if 4<=md/\V%2=1 then [0] else []) rfl⟩
 .exact (hC (k+2)).1
 .show (sq (bkC C) [] (C (k+2)).2 mb).1.length<=3;rw [zG];omega
 .exact aIg (Q:=fun l=>l.length<=40/\∀ z∈l,0<=z/\z<=4294967295) (fun q=>⟨(hC q).1.1.2,(hC q).1.2⟩) _ _
 .show (dtL zs _ md).length<=16;rw [yZ];omega
 .intro z hz';unfold dtL at hz';rw [List.mem_map] at hz';obtain ⟨q,_,rfl⟩:=hz';omega
 .show 0<=V%64/\V%64<=63;omega
 .show (if 4<=md/\V%2=1 then [0] else [])=[]\/(if 4<=md/\V%2=1 then [0] else [])=[0];split
  .exact .inr rfl
  .exact .inl rfl
 .exact aMw (mb+1) (by omega)
def clM (x:PMod×Ma):List Value:=[.string x.1.nm,.slice x.2.a1 x.1.tz.length x.2.c1,.slice x.2.a2 x.2.bl.length x.2.c2,.slice x.2.a3 x.1.dz.length x.2.c3,.int .i64 x.1.bss,.slice x.2.a5 x.1.rz.length x.2.c5,.slice x.2.a6 x.1.ss.length x.2.c6,.slice x.2.a7 x.1.es.length x.2.c7]
def aMa (x:PMod×Ma):Option Nat:=(Value.slice x.2.a6 x.1.ss.length x.2.c6).ownBlock
theorem vI:∀ (L:List (PMod×Ma)) (i:Nat) (x:PMod×Ma),L[i]?=some x->∀ j,j<8->(L.flatMap clM)[i*8+j]?=(clM x)[j]?
 | [],i,x,h,j,hj=>by simp at h
 | y::L,0,x,h,j,hj=>by
   simp at h;subst h;rw [List.flatMap_cons,List.getElem?_append_left (by simp [clM];omega)];simp
 | y::L,i+1,x,h,j,hj=>by
   rw [List.flatMap_cons,List.getElem?_append_right (by simp [clM];omega)];have e:(i+1)*8+j-(clM y).length=i*8+j:=by simp [clM];omega
   rw [e];exact vI L i x (by simpa using h) j hj
theorem vH (v:Value)(x':PMod×Ma):∀ (L:List (PMod×Ma)) (i:Nat) (x:PMod×Ma),L[i]?=some x->clM x'=(clM x).set 6 v->(L.flatMap clM).set (i*8+6) v=(L.set i x').flatMap clM
 | [],i,x,h,e=>by simp at h
 | y::L,0,x,h,e=>by
   simp at h;subst h;rw [List.set_cons_zero,List.flatMap_cons,List.flatMap_cons,e];exact List.set_append_left _ _ (by simp [clM])
 | y::L,i+1,x,h,e=>by
   rw [List.set_cons_succ,List.flatMap_cons,List.flatMap_cons,<- vH v x' L i x (by simpa using h) e,List.set_append_right _ _ (by simp [clM];omega)];congr 2;simp [clM];omega
theorem qU {t:TypeId}{sz:Nat}(h:W.ownsRow base t sz (.slice (some ⟨g,0,none⟩) n cap) n xs)(k:Nat)(v:Value):(W.setCell ⟨g,k,none⟩ v).ownsRow base t sz (.slice (some ⟨g,0,none⟩) n cap) n (xs.set k v):=by
 obtain ⟨hl,⟨h0,_⟩|⟨g',cap',cur,hv,hg,hh,h1,h2,h3,h4⟩⟩:=h
 .simp at h0
 .simp at hv;obtain ⟨rfl,rfl⟩:=hv;refine ⟨by simpa using hl,.inr ⟨g,cap,cur.setIfInBounds k v,rfl,hg,Blk.set (w:=W) hh k v,h1,h2,by simpa using h3,?_⟩⟩;rw [Array.toList_setIfInBounds,List.take_set,h4]
theorem vC {row:Option Nat}(hg:W.grownBy W' row):Turn (fun j=>row=some j) W W':=⟨hg.os,hg.tape,hg.output,hg.size,fun j hj hs=>hg.block j hj (fun e=>hs e.symm)⟩
theorem MO.grownM (h:MO W base P M)(ho:W.ownsRow base' 53 8 v n xs)(hg:W.grownBy W' v.ownBlock):MO W' base P M:=h.kept (vC hg) (fun j hj=>.inr (aM ho hj))
theorem MO.mono (h:MO W base P M)(hb:base'<=base):MO W base' P M:=ModO.mono h hb
theorem MO.bw (h:MO W base P M)(hb:Below W.heap.size W W'):MO W' base P M:=h.kept (S:=fun _=>False) (aJ hb) (fun j hj=>absurd hj id)
theorem MO.far_i (h:MO W base P M)(ho:W.ownsRow base' 9 1 v n xs)(hg:W.grownBy W' v.ownBlock)(hne:∀ k,v.ownBlock=some k->(Value.slice M.a6 P.ss.length M.c6).ownBlock≠some k):MO W' base P M where
 t:=h.t.grown hg (aX h.t ho (by decide))
 b:=h.b.grown hg (aX h.b.head ho (by decide)) (fun B hB=>aX (h.b.rows B hB).2 ho (by decide))
 bls:=h.bls
 d:=h.d.grown' hg (aX h.d.1 ho (by decide))
 r:=h.r.grown hg (aX h.r ho (by decide))
 i:=h.i.grown hg (aDm hne)
 e:=h.e.grown hg (aX h.e ho (by decide))
 tb:=h.tb
 tr:=h.tr
 br:=h.br
def rb (x:PMod×Ma)(b:Nat):Prop:=(Value.slice x.2.a1 x.1.tz.length x.2.c1).ownBlock=some b\/(Value.slice x.2.a2 x.2.bl.length x.2.c2).ownBlock=some b\/(Value.slice x.2.a5 x.1.rz.length x.2.c5).ownBlock=some b\/(Value.slice x.2.a7 x.1.es.length x.2.c7).ownBlock=some b\/∃ B∈x.2.bl,(Value.slice B.1 B.2.1 B.2.2.1).ownBlock=some b
def Sep (L:List (PMod×Ma)):Prop:=∀ (i j:Nat) (x y:PMod×Ma),L[i]?=some x->L[j]?=some y->i≠j->∀ b,rb x b->¬ rb y b
theorem MO.rb_lt (h:MO W base x.1 x.2)(b:Nat)(hb:rb x b):base<=b/\b<W.heap.size:=by
 rcases hb with e|e|e|e|⟨B,hB,e⟩
 .exact h.t.lt b e
 .exact h.b.head.lt b e
 .exact h.r.lt b e
 .exact h.e.lt b e
 .exact (h.b.rows B hB).2.lt b e
theorem aIu:Sep []:=fun i j x y hx=>by simp at hx
structure Mst (w W:World)(r:Nat)(a:Option Addr)(n c:Nat)(zs:List Int)(k:Nat)(v:Value)(L:List (PMod×Ma)):Prop where
 d:Dst w W r a n c zs k
 o:OG 53 8 clM W w.heap.size v L
 m:∀ (i:Nat) (x:PMod×Ma),L[i]?=some x->MO W w.heap.size x.1 x.2/\∃ db,x.2.a3=some ⟨db,0,none⟩
 ap:∀ (i j:Nat) (x y:PMod×Ma),L[i]?=some x->L[j]?=some y->i≠j->∀ q,aMa x=some q->aMa y≠some q
 sp:Sep L
theorem Mst.bw (h:Mst w W r a n c zs k v L)(hb:Below W.heap.size W W'):Mst w W' r a n c zs k v L:=⟨h.d.bw hb,h.o.bw hb,fun i x hx=>⟨(h.m i x hx).1.bw hb,(h.m i x hx).2⟩,h.ap,h.sp⟩
theorem Mst.drew (h:Mst w W r a n c zs k v L):Mst w W.drew r a n c zs k v L:=h.bw (Below.refl _ _).drew
theorem Mst.turn (h:Mst w W r a n c zs k v L)(ht:Turn (fun j=>j=r) W W')(d:Dst w W' r a n c zs k'):Mst w W' r a n c zs k' v L:=
 ⟨d,h.o.turn ht (fun j hj=>by have:=h.d.lt;omega),fun i x hx=>⟨(h.m i x hx).1.kept ht (fun j hj=>.inl (by subst hj;exact h.d.lt)),(h.m i x hx).2⟩,h.ap,h.sp⟩
theorem Mst.next (h:Mst w W r a n c zs k v L)(x:Int)(hx:Hid (zs.getD k 0=x)):
 Calls prog 10 #[.pointer (some ⟨r,0,none⟩)] W fun e w'=>e=.returned (.int .i64 x)/\Mst w w' r a n c zs (k+1) v L:=
 (h.d.next x hx).mono fun e w' ⟨he,hd,ht⟩=>⟨he,h.turn ht hd⟩
theorem gY {α:Type}{L:List α}{y x:α}(h:(L++[y])[i]?=some x):L[i]?=some x\/(i=L.length/\x=y):=by
 rcases Nat.lt_or_ge i L.length with hi|hi
 .rw [List.getElem?_append_left hi] at h;exact .inl h
 .rw [List.getElem?_append_right hi] at h;by_cases e:i-L.length=0
  .rw [e] at h;simp at h;exact .inr ⟨by omega,h.symm⟩
  .obtain ⟨m,hm⟩:∃ m,i-L.length=m+1:=⟨i-L.length-1,by omega⟩;rw [hm] at h;simp at h
theorem Mst.push {wa w':World}{v':Value}{cs:Array Value}(h:Mst w W r a n c zs k v L)(d:Dst W wa r a n c zs k')(mo:MO wa W.heap.size x.1 x.2)(ds:∃ db,x.2.a3=some ⟨db,0,none⟩)
 (hown:w'.ownsRow w.heap.size 53 8 v' (L.length+1) (L.flatMap clM++clM x)) (hg:(wa.alloc (.cells cs 53)).grownBy w' v.ownBlock):Mst w w' r a n c zs k' v' (L++[x]):=by
 have hA:=(h.turn d.t (h.d.trans d)).bw (aU wa (.cells cs 53));have hs:=h.d.sz;refine ⟨hA.d.grown hg (fun j hj=>(hA.o.lt j hj).1),?_,fun i y hy=>?_,fun i j y z hy hz hij q hq=>?_,fun i j y z hy hz hij b hb hb'=>?_⟩
 .unfold OG;rw [List.length_append,List.flatMap_append];simpa using hown
 .rcases gY hy with hy|⟨_,rfl⟩
  .exact ⟨(hA.m i y hy).1.grownM hA.o hg,(hA.m i y hy).2⟩
  .exact ⟨((mo.bw (aU wa _)).grownM hA.o hg).mono hs,ds⟩
 .rcases gY hy with hy1|⟨ei,rfl⟩<;>rcases gY hz with hz1|⟨ej,rfl⟩
  .exact h.ap i j y z hy1 hz1 hij q hq
  .intro e;have h1:=((h.m i y hy1).1.i.lt q hq).2;have h2:=(mo.i.lt q e).1;omega
  .intro e;have h1:=((h.m j z hz1).1.i.lt q e).2;have h2:=(mo.i.lt q hq).1;omega
  .omega
 .rcases gY hy with hy1|⟨ei,rfl⟩<;>rcases gY hz with hz1|⟨ej,rfl⟩
  .exact h.sp i j y z hy1 hz1 hij b hb hb'
  .have h1:=((h.m i y hy1).1.rb_lt b hb).2;have h2:=(mo.rb_lt b hb').1;omega
  .have h1:=((h.m j z hz1).1.rb_lt b hb').2;have h2:=(mo.rb_lt b hb).1;omega
  .omega
theorem jW {α:Type}{L:List α}{x' x:α}{j:Nat}(h:(L.set i x')[j]?=some x):(j=i/\x=x')\/(j≠i/\L[j]?=some x):=by
 rw [List.getElem?_set] at h;split at h
 .rename_i e;split at h
  .simp at h;exact .inl ⟨e.symm,h.symm⟩
  .simp at h
 .rename_i e;exact .inr ⟨fun e'=>e e'.symm,h⟩
theorem Mst.imp {w4:World}{g4 c4:Nat}{s:ByteArray}(h:Mst w W r a n c zs k (.slice (some ⟨g,0,none⟩) m cap) L)(hm:L.length=m)(hx:L[i]?=some x)
 (hown:w4.ownsRow w.heap.size 9 1 (.slice (some ⟨g4,0,none⟩) (x.1.ss.length+1) c4) (x.1.ss.length+1) (x.1.ss.flatMap clT++clT s)) (hg:W.grownBy w4 (Value.slice x.2.a6 x.1.ss.length x.2.c6).ownBlock) (hat:(Value.slice x.2.a6 x.1.ss.length x.2.c6).ownBlock=some g4\/g4=W.heap.size):
 Mst w (w4.setCell ⟨g,i*8+6,none⟩ (.slice (some ⟨g4,0,none⟩) (x.1.ss.length+1) c4)) r a n c zs k (.slice (some ⟨g,0,none⟩) m cap) (L.set i ({ x.1 with ss:=x.1.ss++[s] },{ x.2 with a6:=some ⟨g4,0,none⟩,c6:=c4 })):=by
 obtain ⟨mx,dx⟩:=h.m i x hx;have hgo:=(h.o.lt g rfl).1;have o1:OG 53 8 clM w4 w.heap.size (.slice (some ⟨g,0,none⟩) m cap) L:=h.o.grown hg (aX h.o mx.i (by decide));have kb:∀ j,j=g->∃ cs,Blk w4 j cs 53:=fun j hj=>by subst hj;exact aM o1 rfl
 have gi:MO w4 w.heap.size { x.1 with ss:=x.1.ss++[s] } { x.2 with a6:=some ⟨g4,0,none⟩,c6:=c4 }:=mx.grow_i (X:=[s]) rfl (by unfold OG;rw [List.length_append,List.flatMap_append];simpa using hown) hg;refine ⟨(h.d.grown hg (fun j hj=>(mx.i.lt j hj).1)).set hgo _ _,?_,fun j y hy=>?_,fun j j' y z hy hz hij q hq=>?_,fun j j' y z hy hz hij b hb hb'=>?_⟩
 .unfold OG at o1 ⊢;rw [List.length_set];rw [hm] at o1 ⊢;have:=qU o1 (i*8+6) (.slice (some ⟨g4,0,none⟩) (x.1.ss.length+1) c4);rw [vH _ ({ x.1 with ss:=x.1.ss++[s] },{ x.2 with a6:=some ⟨g4,0,none⟩,c6:=c4 }) L i x hx (by simp [clM])] at this;exact this
 .rcases jW hy with ⟨_,rfl⟩|⟨hj,hy⟩
  .exact ⟨gi.kept (aC w4 g _ _) (fun j hj=>.inr (kb j hj)),dx⟩
  .exact ⟨((h.m j y hy).1.far_i mx.i hg (h.ap i j x y hx hy (fun e=>hj e.symm))).kept (aC w4 g _ _) (fun j hj=>.inr (kb j hj)),(h.m j y hy).2⟩
 .have key:∀ jj y,L[jj]?=some y->jj≠i->aMa y≠some g4:=fun jj y hy hj e=>by
   rcases hat with e2|e2
   .exact h.ap i jj x y hx hy (fun e=>hj e.symm) g4 e2 e
   .have:=((h.m jj y hy).1.i.lt g4 e).2;omega
  rcases jW hy with ⟨e1,rfl⟩|⟨hj,hy⟩<;>rcases jW hz with ⟨e2,rfl⟩|⟨hj',hz⟩
  .omega
  .have:some g4=some q:=hq;injection this with this
   subst this;exact key j' z hz hj'
  .intro e;have:some g4=some q:=e;injection this with this
   subst this;exact key j y hy hj hq
  .exact h.ap j j' y z hy hz hij q hq
 .rcases jW hy with ⟨e1,rfl⟩|⟨hj,hy⟩<;>rcases jW hz with ⟨e2,rfl⟩|⟨hj',hz⟩
  .omega
  .exact h.sp i j' x z hx hz (by omega) b hb hb'
  .exact h.sp j i y x hy hx (by omega) b hb hb'
  .exact h.sp j j' y z hy hz hij b hb hb'
theorem Mst.cells (h:Mst w W r a n c zs k (.slice (some ⟨g,0,none⟩) m cap) L)(hx:L[i]?=some x)(j:Nat)(hj:j<8)(u:Value)(hu:(clM x)[j]?=some u):W.cell? ⟨g,i*8+j,none⟩=some u:=by
 have hi:i<L.length:=by
  rcases Nat.lt_or_ge i L.length with hi|hi
  .exact hi
  .rw [List.getElem?_eq_none hi] at hx;cases hx
 obtain ⟨h1,_,_,h4⟩:=bG h.o;obtain ⟨g',e,hc⟩:=h4 (by omega);simp at e;subst e;exact hc _ _ (by rw [vI L i x hx j hj];exact hu)
