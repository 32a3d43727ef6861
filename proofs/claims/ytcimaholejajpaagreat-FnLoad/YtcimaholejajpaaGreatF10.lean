import Derived.Test.YtcimaholejajpaaGreatF08
set_option linter.all false
set_option maxHeartbeats 40000000
namespace Go.Proofs.YtcimaholejajpaaGreat
open Go.RowKit
open Go.Proofs.Tryz
set_option maxRecDepth 100000
variable {P:PMod}{a a1 a2 a3 a5 a6 a7:qO}{base c c1 c2 c3 c5 c6 c7 n:Nat}{bl:List Bk}{o:Oper}
theorem zX (b n cap:Nat)(zs:qi)(w:qw)(h:BS w (qP b) n cap zs)(hn:n<=20000)(hb:b<w.heap.size)(h2:2<=n)(x0:zs.getD 0 0=88)(x1:zs.getD 1 0=77):
 qC 14 #[qS (qP b) n cap] w (dP w (wF zs)):=by
 have hl:=h.1;have hby:Byt zs:=h.2.2.1;have HBY:=zh hby;obtain ⟨W0,hW0⟩:=eqx ((w.alloc (.cells #[.string ⟨#[]⟩,qS none 0 0,qS none 0 0,qS none 0 0,qI 0,qS none 0 0,qS none 0 0,qS none 0 0] 53)).alloc (.cells #[.string ⟨#[]⟩,qS none 0 0,qS none 0 0,qS none 0 0,qI 0,qS none 0 0,qS none 0 0,qS none 0 0] 53))
 have F0:qY w W0/\Blk W0 w.heap.size z8 53/\Blk W0 (w.heap.size+1) z8 53:=by
  subst hW0;have b1:qY w (w.alloc (.cells #[.string ⟨#[]⟩,qS none 0 0,qS none 0 0,qS none 0 0,qI 0,qS none 0 0,qS none 0 0,qS none 0 0] 53)):=bal;have k1:=Blk.new w #[.string ⟨#[]⟩,qS none 0 0,qS none 0 0,qS none 0 0,qI 0,qS none 0 0,qS none 0 0,qS none 0 0] 53;have hs1:(w.alloc (.cells #[.string ⟨#[]⟩,qS none 0 0,qS none 0 0,qS none 0 0,qI 0,qS none 0 0,qS none 0 0,qS none 0 0] 53)).heap.size=w.heap.size+1:=by simp
  generalize w.alloc (.cells #[.string ⟨#[]⟩,qS none 0 0,qS none 0 0,qS none 0 0,qI 0,qS none 0 0,qS none 0 0,qS none 0 0] 53)=W1 at *;have b2:qY W1 (W1.alloc (.cells #[.string ⟨#[]⟩,qS none 0 0,qS none 0 0,qS none 0 0,qI 0,qS none 0 0,qS none 0 0,qS none 0 0] 53)):=bal;have k2:=Blk.new W1 #[.string ⟨#[]⟩,qS none 0 0,qS none 0 0,qS none 0 0,qI 0,qS none 0 0,qS none 0 0,qS none 0 0] 53;rw [hs1] at k2;exact ⟨b1.trans (b2.mono (by omega)),k1.bw b2,k2⟩
 obtain ⟨B0,K0,K1⟩:=F0;have hs0:W0.heap.size=w.heap.size+2:=by rw [hW0];simp
 have S0:=aLw h (by omega) hb h2 B0 K0 K1 hs0;have b0:=(h.bw B0).at 0 (by omega);have b1:=(h.bw B0).at 1 (by omega);rw [x0] at b0;rw [x1] at b1;have m0:(0:Int)<(n:Int):=by omega
 have m1:(1:Int)<(n:Int):=by omega
 have c1':¬ (20000:Int)<(n:Int):=by omega
 have c2':¬ (n:Int)<2:=by omega
 rw [hW0] at S0 b0 b1;have HS0:=zh S0;clear B0 K0 K1 h hby S0 hs0 hW0 x0 x1;go_enter func14,ntmps14
 go_wp2_with fail
 refine HS0.o.text.mono ?_;rintro e w1 ⟨nm,s1,rfl,L1,E,T1⟩;clear HS0 T1 b0 b1;have q:=E.k2.e0;have f:=E.k2.frozen 0;have HLt:=zh L1;have E1:Ss w (w1.setCell (qR (w.heap.size+3) 0) (.string nm)) b n cap zs s1 (qM nm none 0 0 none 0 0 none 0 0 0 none 0 0 none 0 0 none 0 0):=E.set 0 (.string nm);clear E L1;go_wp2_with fail
 refine E1.words.mono ?_;rintro e w2 ⟨tz,s2,a1,d1,rfl,o1,L2,E,T2⟩;have o1:=o1.mono E1.sz;have HLw:=zh L2;clear E1 T2 q f L2;have q:=E.k2.e1;have f:=E.k2.frozen 1;have E1:Ss w (w2.setCell (qR (w.heap.size+3) 1) (qS a1 tz.length d1)) b n cap zs s2 (qM nm a1 tz.length d1 none 0 0 none 0 0 0 none 0 0 none 0 0 none 0 0):=E.set 1 (qS a1 tz.length d1);have HA:=zh (vQ aL _ _ (Sg.b (w:=w) (W:=w2) 1 (qS a1 tz.length d1)) o1);have HST:Zh (StS w (fun W=>OG 3 1 clI W (w.heap.size+4) (qS a1 tz.length d1) tz)):=zh (vQ aL);clear E o1;go_wp2_with fail
 refine (E1.num 1 (Or.inl rfl)).mono ?_;rintro e w3 ⟨m3,s3,rfl,hl3,hm3,L,En,T⟩;have hm3:=hm3 rfl;have HL3n:=zh L;have HA2:=zh (HST.o _ _ T HA.o);clear HA L T E1;have HA:=HA2;have E:=En;clear HA2 En;clear q f;have HT1:Zh (∀ k,(qS a1 tz.length d1).ownBlock=some k->k<w3.heap.size):=fun k hk=>(HA.o.lt k hk).2;obtain ⟨iI7,hi7,hz07,hz17,hz27⟩:=info_parts aDy;have hsz7:=E.sz;go_wp2_with fail
 go_loopw [7] (fun i wr=>∃ (k:Nat) (xs:List Bk) (s':Option (List Int)) (a:qO) (c:Nat),k<=m3/\i=qI ((m3-k:Nat):Int)/\xs.length=k/\OBk wr w3.heap.size (qS a k c) xs/\Ss w wr b n cap zs s' (qM nm a1 tz.length d1 a k c none 0 0 0 none 0 0 none 0 0 none 0 0)/\Turn (Sg w) w3 wr/\Lm pL m3 k s3 (xs.map fun B=>B.2.2.2) s') (fun i _=>(intOf i).toNat)
 .exact ⟨0,[],s3,none,0,xC _,rfl,rfl,wQ _ _,E,Turn.refl _ _,lZ _ _ _⟩
 .obtain ⟨k7,x7,r7,a7,c7,hk7,rfl,hx7,O,S,T,L⟩:=hrel;generalize wr=wr7 at *;clear E;have q2:=S.short;by_cases hlt7:k7<m3
  .have hlt':(0:Int)<((m3-k7:Nat):Int):=by omega
   cases r7 with
   | none=>
     simp at q2;have HP:=zh (gR (rX HLt.o HLw.o HL3n.o (L.done (.inr rfl) hk7) (cK (pN 2) 0) (cK (pB 0) []) (cK (pN 2) 0) (cK (pN 1) 0) (cK (pM (pN 2) 0) []) (cK (pN 1) 0) (cK (pM pT 0) []) (cK (pN 1) 0) (cK (pM pX 0) [])));clear O T L HA HST HLt HLw HL3n;go_wp2_with fail
     refine (S.num0 2 (Or.inr rfl)).mono ?_;rintro e t1 ⟨rfl,S1⟩;clear S;go_wp2_with fail
     refine S1.bytes0.mono ?_;rintro e u1 ⟨av1,cv1,rfl,R1⟩;clear S1;have q1:=R1.k2.e3;have f1:=R1.k2.frozen 3;have U1:Ss w (u1.setCell (qR (w.heap.size+3) 3) (qS av1 0 cv1)) b n cap zs none (qM nm a1 tz.length d1 a7 k7 c7 av1 0 cv1 0 none 0 0 none 0 0 none 0 0):=R1.set 3 (qS av1 0 cv1);clear R1;go_wp2_with fail
     refine (U1.num0 2 (Or.inr rfl)).mono ?_;rintro e t2 ⟨rfl,S2⟩;clear U1 q1 f1;have q2:=S2.k2.e4;have f2:=S2.k2.frozen 4;have U2:Ss w (t2.setCell (qR (w.heap.size+3) 4) (qI 0)) b n cap zs none (qM nm a1 tz.length d1 a7 k7 c7 av1 0 cv1 0 none 0 0 none 0 0 none 0 0):=S2.set 4 (qI 0);clear S2;go_wp2_with fail
     refine (U2.num0 1 (Or.inl rfl)).mono ?_;rintro e t3 ⟨rfl,S3⟩;clear U2;go_wp2_with fail
     go_loopw [8] (fun i wr=>i=qI 0/\Ss w wr b n cap zs none (qM nm a1 tz.length d1 a7 k7 c7 av1 0 cv1 0 none 0 0 none 0 0 none 0 0)) (fun _ _=>0)
     .exact ⟨rfl,S3⟩
     .obtain ⟨rfl,U3⟩:=hrel;clear S3;go_wp2_with fail
      refine (U3.num0 1 (Or.inl rfl)).mono ?_;rintro e t4 ⟨rfl,S4⟩;clear U3;go_wp2_with fail
      go_loopw [9] (fun i wr=>i=qI 0/\Ss w wr b n cap zs none (qM nm a1 tz.length d1 a7 k7 c7 av1 0 cv1 0 none 0 0 none 0 0 none 0 0)) (fun _ _=>0)
      .exact ⟨rfl,S4⟩
      .obtain ⟨rfl,U4⟩:=hrel;clear S4;go_wp2_with fail
       refine (U4.num0 1 (Or.inl rfl)).mono ?_;rintro e t5 ⟨rfl,S5⟩;clear U4;go_wp2_with fail
       go_loopw [10] (fun i wr=>i=qI 0/\Ss w wr b n cap zs none (qM nm a1 tz.length d1 a7 k7 c7 av1 0 cv1 0 none 0 0 none 0 0 none 0 0)) (fun _ _=>0)
       .exact ⟨rfl,S5⟩
       .obtain ⟨rfl,U5⟩:=hrel;clear S5;have qs:=U5.short;simp at qs;obtain ⟨u0,u1,u2,u3,u4,u5,u6,u7⟩:=aY U5.k1;obtain ⟨p0,p1,p2,p3,p4,p5,p6,p7⟩:=aY U5.k0;obtain ⟨y0,y1,y2,y3,y4,y5,y6,y7⟩:=cO U5.k0;have HE:=zh U5;clear U5;go_wp2;exact fK HE.o.be HE.o.k0 2 _ HP.o _ rfl rfl
   | some r=>
     simp at q2;obtain ⟨p2,f2⟩:=S.two 2 (qS a7 k7 c7) rfl;have HO:=zh (xA O (xA S (xA T L)));have hszw:=S.sz;have hsz3:=T.size;have HLO:Zh (∀ B∈x7,∀ j,(qS B.1 B.2.1 B.2.2.1).ownBlock=some j->j<wr7.heap.size):=fun B hB j hj=>((O.rows B hB).2.lt j hj).2;have HBL:=zh hx7;clear O S T L hx7;go_wp2_with fail
     go_region_law (first
      | (refine step_append_lies _ rfl _ _ 49 rfl w3.heap.size 29 iI7 (qS none 0 0) 1 24 underlying49 hi7 hz07 hz17 hz27 rfl (by decide) (qS a7 k7 c7) k7 (x7.map fun B=>qS B.1 B.2.1 B.2.2.1) rfl HOW.o (qR wa.heap.size 0) 1 1 [qS A x.length C] rfl rfl (aN wa _ _ [qS A x.length C] rfl) (by intro u hu;simp [clI,clT] at hu;subst hu;rfl) (by decide) (by unfold maxLen;omega) (by omega) (by simp;omega) _ rfl ?_;intro g4 c4 w4 hown hgr hat hlt4;obtain ⟨p4,f4⟩:=(SAL.o.grown hgr (fun j hj=>(OAL.o.lt j hj).1) (by omega)).two 2 (qS a7 k7 c7) rfl)
      | (go_simp;go_at_call 33;refine (Ss.words (w:=w) (b:=b) (n:=n) (cap:=cap) (zs:=zs) (st:=some r) (cs:=(qM nm a1 tz.length d1 a7 k7 c7 none 0 0 0 none 0 0 none 0 0 none 0 0)) (by first|exact HO.o.2.1|exact HO.o.2.1.drew)).mono ?_;rintro e wa ⟨x,s4,A,C,rfl,ox,La,SA,Ta⟩;have Ta':Turn (Sg w) wr7 wa:=⟨Ta.os,Ta.tape,Ta.output,Ta.size,Ta.block⟩;have al:qY wa (wa.alloc (.cells #[qS A x.length C] 29)):=bal;obtain ⟨pa,fa⟩:=SA.two 2 (qS a7 k7 c7) rfl;have hsa:=SA.sz;have hsa3:=Ta'.size;have OAL:=zh ((HO.o.1.turn Ta' (fun j hj=>by unfold Sg at hj;omega)).turn (S:=fun _=>False) (aJ al) (fun j hj=>absurd hj id));have SAL:=zh (SA.bw al);obtain ⟨pb,fb⟩:=SAL.o.two 2 (qS a7 k7 c7) rfl;have HOW:=zh (show (wa.alloc (.cells #[qS A x.length C] 29)).ownsRow w3.heap.size 29 1 (qS a7 k7 c7) k7 (x7.map fun B=>qS B.1 B.2.1 B.2.2.1) by have:=OAL.o.head;rw [HBL.o] at this;exact this);have HX:=zh (xA (ox.bw al) (xA Ta' La));clear ox Ta Ta' La al SA))
     all_goals
      obtain ⟨O,S,T,L⟩:=HO.o;obtain ⟨ox,Ta,La⟩:=HX.o;have hrow:∀ j,(qS a7 k7 c7).ownBlock=some j->w3.heap.size<=j:=fun j hj=>(OAL.o.lt j hj).1;have O5:=(OAL.o.push HBL.o ox (by exact hsz3) HLO.o hown hgr).turn (aC w4 (w.heap.size+3) 2 (qS (qP g4) (k7+1) c4)) (fun j hj=>by omega);have S5:Ss w (w4.setCell (qR (w.heap.size+3) 2) (qS (qP g4) (k7+1) c4)) b n cap zs s4 (qM nm a1 tz.length d1 (qP g4) (k7+1) c4 none 0 0 0 none 0 0 none 0 0 none 0 0):=(SAL.o.grown hgr hrow (by omega)).set 2 (qS (qP g4) (k7+1) c4);have T5:Turn (Sg w) w3 (w4.setCell (qR (w.heap.size+3) 2) (qS (qP g4) (k7+1) c4)):=(bO ((T.trans Ta).trans (aD _ _)) hgr hrow).trans (Sg.b 2 (qS (qP g4) (k7+1) c4));have L5:=L.step hlt7 La;have HF:=zh (xA O5 (xA S5 (xA T5 L5)));have HLE:=zh (show (x7++[((A,x.length,C,x):Bk)]).length=k7+1 by rw [xI,HBL.o];rfl);have HMA:=zh (show (x7++[((A,x.length,C,x):Bk)]).map (fun B=>B.2.2.2)=x7.map (fun B=>B.2.2.2)++[x] by simp);have HDEC:=zh (show ((m3-k7:Nat):Int)-1=((m3-(k7+1):Nat):Int) by omega);clear O S T L ox Ta La hrow O5 S5 T5 L5 HO HX OAL SAL HOW hown hgr hat hlt4 p4 f4 pa fa pb fb;go_wp2
      go_roundw
      .exact ⟨k7+1,x7++[((A,x.length,C,x):Bk)],s4,some (qR g4 0),c4,by omega,by rw [<- HDEC.o],HLE.o,HF.o.1,HF.o.2.1,HF.o.2.2.1,by rw [HMA.o];exact HF.o.2.2.2⟩
      .simp [intOf];omega
  .have hlt':¬ (0:Int)<((m3-k7:Nat):Int):=by omega
   have hkm7:k7=m3:=by omega
   have HL7:=zh (L.done (.inl hkm7) hk7);have HX7:=zh hx7;have HA2:=zh (HST.o _ _ T HA.o);have HB:=zh O;have HT:=zh T.size;have E:=S;clear HA L T O S hx7 hkm7;have HA:=HA2;clear HA2;have HSB:Zh (∀ B∈x7,∀ j,(qS B.1 B.2.1 B.2.2.1).ownBlock=some j->w3.heap.size<=j):=fun B hB j hj=>((HB.o.rows B hB).2.lt j hj).1;have HAn:=zh (xA HA.o (HB.o.mono hsz7));have HSTn:=zh (HST.o.and (aIq (w:=w) (v:=qS a7 k7 c7) (bl:=x7) aL));clear HA HST HB;have HA:=HAn;have HST:=HSTn;clear HAn HSTn q2;go_wp2_with fail
   refine (E.num 2 (Or.inr rfl)).mono ?_;rintro e w4 ⟨m4,s4,rfl,hl4,hm4,L,En,T⟩;clear hm4;have HL4n:=zh L;have HA2:=zh (HST.o _ _ T HA.o);clear HA L T E;have HA:=HA2;have E:=En;clear HA2 En;go_wp2_with fail
   refine (E.bytes m4 hl4).mono ?_;rintro e w5 ⟨dz,s5,a3,d3,rfl,o3,L,E1,T⟩;have o3:Zh (OB w5 (w.heap.size+4) (qS a3 dz.length d3) dz):=OB.mono o3 E.sz;have HLb:=zh L;have HA2:=zh (HST.o _ _ T HA.o);clear HA L T E;have HA:=HA2;clear HA2;have q:=E1.k2.e3;have f:=E1.k2.frozen 3;have E:Ss w (w5.setCell (qR (w.heap.size+3) 3) (qS a3 dz.length d3)) b n cap zs s5 (qM nm a1 tz.length d1 a7 k7 c7 a3 dz.length d3 0 none 0 0 none 0 0 none 0 0):=E1.set 3 (qS a3 dz.length d3);have HSTn:=zh (HST.o.and (aLt (w:=w) (v:=qS a3 dz.length d3) (zs:=dz) aL));have HAn:=zh (HSTn.o _ _ (Sg.b (w:=w) (W:=w5) 3 (qS a3 dz.length d3)) (xA HA.o o3.o));clear E1 HA HST o3;have HA:=HAn;have HST:=HSTn;clear HAn HSTn;go_wp2_with fail
   refine (E.num 2 (Or.inr rfl)).mono ?_;rintro e w6 ⟨m6,s6,rfl,hl6,hm6,L,En,T⟩;clear hm6;have HL6n:=zh L;have HA2:=zh (HST.o _ _ T HA.o);clear HA L T E;have HA:=HA2;have E:=En;clear HA2 En;clear q f;have q:=E.k2.e4;have f:=E.k2.frozen 4;have E1:Ss w (w6.setCell (qR (w.heap.size+3) 4) (qI (m6:Int))) b n cap zs s6 (qM nm a1 tz.length d1 a7 k7 c7 a3 dz.length d3 (m6:Int) none 0 0 none 0 0 none 0 0):=E.set 4 (qI (m6:Int));have HA2:=zh (HST.o _ _ (Sg.b (w:=w) (W:=w6) 4 (qI (m6:Int))) HA.o);clear E HA;have HA:=HA2;clear HA2;go_wp2_with fail
   refine (E1.num 1 (Or.inl rfl)).mono ?_;rintro e w8 ⟨m8,s8,rfl,hl8,hm8,L,En,T⟩;have hm8:=hm8 rfl;have HL8n:=zh L;have HA2:=zh (HST.o _ _ T HA.o);clear HA L T E1;have HA:=HA2;have E:=En;clear HA2 En;clear q f;have HT8:Zh (∀ k,(qS a1 tz.length d1).ownBlock=some k->k<w8.heap.size):=fun k hk=>(HA.o.1.1.lt k hk).2;have HB8:Zh (∀ B∈x7,∀ j,(qS B.1 B.2.1 B.2.2.1).ownBlock=some j->w3.heap.size<=j/\j<w8.heap.size):=fun B hB j hj=>⟨(HSB.o B hB j hj),((HA.o.1.2.rows B hB).2.lt j hj).2⟩;clear HSB;obtain ⟨iI8,hi8,hz08,hz18,hz28⟩:=info_parts gG;have hsz8:=E.sz;go_wp2_with fail
   go_loopw [8] (fun i wr=>∃ (k:Nat) (xs:qi) (s':Option (List Int)) (a:qO) (c:Nat),k<=m8/\i=qI ((m8-k:Nat):Int)/\xs.length=k/\OG 3 1 clI wr w8.heap.size (qS a k c) xs/\Ss w wr b n cap zs s' (qM nm a1 tz.length d1 a7 k7 c7 a3 dz.length d3 (m6:Int) a k c none 0 0 none 0 0)/\Turn (Sg w) w8 wr/\Lm (pN 2) m8 k s8 xs s') (fun i _=>(intOf i).toNat)
   .exact ⟨0,[],s8,none,0,xC _,rfl,rfl,cE _ _ _ _ _,E,Turn.refl _ _,lZ _ _ _⟩
   .obtain ⟨k8,x8,r8,a8,c8,hk8,rfl,hx8,O,S,T,L⟩:=hrel;generalize wr=wr8 at *;clear E;have q2:=S.short;by_cases hlt8:k8<m8
    .have hlt':(0:Int)<((m8-k8:Nat):Int):=by omega
     cases r8 with
     | none=>
       simp at q2;have HP:=zh (gR (rX HLt.o HLw.o HL3n.o HL7.o HL4n.o HLb.o HL6n.o HL8n.o (L.done (.inr rfl) hk8) (cK (pN 1) 0) (cK (pM pT 0) []) (cK (pN 1) 0) (cK (pM pX 0) [])));clear O T L HA HST HLt HLw HL3n HL7 HL4n HLb HL6n HL8n;go_wp2_with fail
       refine (S.num0 1 (Or.inl rfl)).mono ?_;rintro e t1 ⟨rfl,S1⟩;clear S;go_wp2_with fail
       go_loopw [9] (fun i wr=>i=qI 0/\Ss w wr b n cap zs none (qM nm a1 tz.length d1 a7 k7 c7 a3 dz.length d3 (m6:Int) a8 k8 c8 none 0 0 none 0 0)) (fun _ _=>0)
       .exact ⟨rfl,S1⟩
       .obtain ⟨rfl,U1⟩:=hrel;clear S1;go_wp2_with fail
        refine (U1.num0 1 (Or.inl rfl)).mono ?_;rintro e t2 ⟨rfl,S2⟩;clear U1;go_wp2_with fail
        go_loopw [10] (fun i wr=>i=qI 0/\Ss w wr b n cap zs none (qM nm a1 tz.length d1 a7 k7 c7 a3 dz.length d3 (m6:Int) a8 k8 c8 none 0 0 none 0 0)) (fun _ _=>0)
        .exact ⟨rfl,S2⟩
        .obtain ⟨rfl,U2⟩:=hrel;clear S2;have qs:=U2.short;simp at qs;obtain ⟨u0,u1,u2,u3,u4,u5,u6,u7⟩:=aY U2.k1;obtain ⟨p0,p1,p2,p3,p4,p5,p6,p7⟩:=aY U2.k0;obtain ⟨y0,y1,y2,y3,y4,y5,y6,y7⟩:=cO U2.k0;have HE:=zh U2;clear U2;go_wp2;exact fK HE.o.be HE.o.k0 2 _ HP.o _ rfl rfl
     | some r=>
       simp at q2;obtain ⟨p2,f2⟩:=S.two 5 (qS a8 k8 c8) rfl;have HO:=zh (xA O (xA S (xA T L)));have hszw:=S.sz;have hsz3:=T.size;have HBL:=zh hx8;clear O S T L hx8;go_wp2_with fail
       go_region_law (first
        | (refine step_append_lies _ rfl _ _ 29 rfl w8.heap.size 3 iI8 (qI 0) 1 8 underlying29 hi8 hz08 hz18 hz28 rfl (by decide) (qS a8 k8 c8) k8 (x8.flatMap clI) rfl HOW.o (qR wa.heap.size 0) 1 1 (clI (x:Int)) rfl rfl (aN wa _ _ (clI (x:Int)) rfl) (by intro u hu;simp [clI,clT] at hu;subst hu;rfl) (by decide) (by unfold maxLen;omega) (by omega) (by simp;omega) _ rfl ?_;intro g4 c4 w4 hown hgr hat hlt4;obtain ⟨p4,f4⟩:=(SAL.o.grown hgr (fun j hj=>(OAL.o.lt j hj).1) (by omega)).two 5 (qS a8 k8 c8) rfl)
        | (go_simp;go_at_call 34;refine (Ss.num (w:=w) (b:=b) (n:=n) (cap:=cap) (zs:=zs) (st:=some r) (cs:=(qM nm a1 tz.length d1 a7 k7 c7 a3 dz.length d3 (m6:Int) a8 k8 c8 none 0 0 none 0 0)) (by first|exact HO.o.2.1|exact HO.o.2.1.drew) 2 (Or.inr rfl)).mono ?_;rintro e wa ⟨x,s4,rfl,_,_,La,SA,Ta⟩;have Ta':Turn (Sg w) wr8 wa:=⟨Ta.os,Ta.tape,Ta.output,Ta.size,Ta.block⟩;have al:qY wa (wa.alloc (.cells #[qI (x:Int)] 3)):=bal;obtain ⟨pa,fa⟩:=SA.two 5 (qS a8 k8 c8) rfl;have hsa:=SA.sz;have hsa3:=Ta'.size;have OAL:=zh ((HO.o.1.turn Ta' (fun j hj=>by unfold Sg at hj;omega)).turn (S:=fun _=>False) (aJ al) (fun j hj=>absurd hj id));have SAL:=zh (SA.bw al);obtain ⟨pb,fb⟩:=SAL.o.two 5 (qS a8 k8 c8) rfl;have HOW:=zh (show (wa.alloc (.cells #[qI (x:Int)] 3)).ownsRow w8.heap.size 3 1 (qS a8 k8 c8) k8 (x8.flatMap clI) by have:=OAL.o;unfold OG at this;rw [HBL.o] at this;exact this);have HX:=zh (xA (True.intro) (xA Ta' La));clear Ta Ta' La al SA))
       all_goals
        obtain ⟨O,S,T,L⟩:=HO.o;obtain ⟨ox,Ta,La⟩:=HX.o;have hrow:∀ j,(qS a8 k8 c8).ownBlock=some j->w8.heap.size<=j:=fun j hj=>(OAL.o.lt j hj).1
        have O4:OG 3 1 clI w4 w8.heap.size (qS (qP g4) (k8+1) c4) (x8++[(x:Int)]):=by
         unfold OG;rw [xI,HBL.o,xU,xX];exact hown
        have O5:=O4.turn (aC w4 (w.heap.size+3) 5 (qS (qP g4) (k8+1) c4)) (fun j hj=>by omega);clear O4;have S5:Ss w (w4.setCell (qR (w.heap.size+3) 5) (qS (qP g4) (k8+1) c4)) b n cap zs s4 (qM nm a1 tz.length d1 a7 k7 c7 a3 dz.length d3 (m6:Int) (qP g4) (k8+1) c4 none 0 0 none 0 0):=(SAL.o.grown hgr hrow (by omega)).set 5 (qS (qP g4) (k8+1) c4);have T5:Turn (Sg w) w8 (w4.setCell (qR (w.heap.size+3) 5) (qS (qP g4) (k8+1) c4)):=(bO ((T.trans Ta).trans (aD _ _)) hgr hrow).trans (Sg.b 5 (qS (qP g4) (k8+1) c4));have L5:=L.step hlt8 La;have HF:=zh (xA O5 (xA S5 (xA T5 L5)));have HLE:=zh (show (x8++[(x:Int)]).length=k8+1 by rw [xI,HBL.o];rfl);have HDEC:=zh (show ((m8-k8:Nat):Int)-1=((m8-(k8+1):Nat):Int) by omega);clear O S T L ox Ta La hrow O5 S5 T5 L5 HO HX OAL SAL HOW hown hgr hat hlt4 p4 f4 pa fa pb fb;go_wp2
        go_roundw
        .exact ⟨k8+1,x8++[(x:Int)],s4,some (qR g4 0),c4,by omega,by rw [<- HDEC.o],HLE.o,HF.o.1,HF.o.2.1,HF.o.2.2.1,HF.o.2.2.2⟩
        .simp [intOf];omega
    .have hlt':¬ (0:Int)<((m8-k8:Nat):Int):=by omega
     have hkm8:k8=m8:=by omega
     have HL8:=zh (L.done (.inl hkm8) hk8);have HX8:=zh hx8;have HA2:=zh (HST.o _ _ T HA.o);have HB:=zh O;have HT:=zh T.size;have E:=S;clear HA L T O S hx8 hkm8;have HA:=HA2;clear HA2;have HSR:Zh (∀ j,(qS a8 k8 c8).ownBlock=some j->w8.heap.size<=j):=fun j hj=>(HB.o.lt j hj).1;have HAn:=zh (xA HA.o (HB.o.mono hsz8));have HSTn:=zh (HST.o.and (vQ (w:=w) (t:=3) (sz:=1) (f:=clI) (v:=qS a8 k8 c8) (xs:=x8) aL));clear HA HST HB;have HA:=HAn;have HST:=HSTn;clear HAn HSTn q2;go_wp2_with fail
     refine (E.num 1 (Or.inl rfl)).mono ?_;rintro e w9 ⟨m9,s9,rfl,hl9,hm9,L,En,T⟩;have hm9:=hm9 rfl;have HL9n:=zh L;have HA2:=zh (HST.o _ _ T HA.o);clear HA L T E;have HA:=HA2;have E:=En;clear HA2 En;obtain ⟨iI9,hi9,hz09,hz19,hz29⟩:=info_parts aDw;have hsz9:=E.sz;go_wp2_with fail
     go_loopw [9] (fun i wr=>∃ (k:Nat) (xs:List ByteArray) (s':Option (List Int)) (a:qO) (c:Nat),k<=m9/\i=qI ((m9-k:Nat):Int)/\xs.length=k/\OG 9 1 clT wr w9.heap.size (qS a k c) xs/\Ss w wr b n cap zs s' (qM nm a1 tz.length d1 a7 k7 c7 a3 dz.length d3 (m6:Int) a8 k8 c8 a k c none 0 0)/\Turn (Sg w) w9 wr/\Lm pT m9 k s9 xs s') (fun i _=>(intOf i).toNat)
     .exact ⟨0,[],s9,none,0,xC _,rfl,rfl,cE _ _ _ _ _,E,Turn.refl _ _,lZ _ _ _⟩
     .obtain ⟨k9,x9,r9,a9,c9,hk9,rfl,hx9,O,S,T,L⟩:=hrel;generalize wr=wr9 at *;clear E;have q2:=S.short;by_cases hlt9:k9<m9
      .have hlt':(0:Int)<((m9-k9:Nat):Int):=by omega
       cases r9 with
       | none=>
         simp at q2;have HP:=zh (gR (rX HLt.o HLw.o HL3n.o HL7.o HL4n.o HLb.o HL6n.o HL8n.o HL8.o HL9n.o (L.done (.inr rfl) hk9) (cK (pN 1) 0) (cK (pM pX 0) [])));clear O T L HA HST HLt HLw HL3n HL7 HL4n HLb HL6n HL8n HL8 HL9n;go_wp2_with fail
         refine (S.num0 1 (Or.inl rfl)).mono ?_;rintro e t1 ⟨rfl,S1⟩;clear S;go_wp2_with fail
         go_loopw [10] (fun i wr=>i=qI 0/\Ss w wr b n cap zs none (qM nm a1 tz.length d1 a7 k7 c7 a3 dz.length d3 (m6:Int) a8 k8 c8 a9 k9 c9 none 0 0)) (fun _ _=>0)
         .exact ⟨rfl,S1⟩
         .obtain ⟨rfl,U1⟩:=hrel;clear S1;have qs:=U1.short;simp at qs;obtain ⟨u0,u1,u2,u3,u4,u5,u6,u7⟩:=aY U1.k1;obtain ⟨p0,p1,p2,p3,p4,p5,p6,p7⟩:=aY U1.k0;obtain ⟨y0,y1,y2,y3,y4,y5,y6,y7⟩:=cO U1.k0;have HE:=zh U1;clear U1;go_wp2;exact fK HE.o.be HE.o.k0 2 _ HP.o _ rfl rfl
       | some r=>
         simp at q2;obtain ⟨p2,f2⟩:=S.two 6 (qS a9 k9 c9) rfl;have HO:=zh (xA O (xA S (xA T L)));have hszw:=S.sz;have hsz3:=T.size;have HBL:=zh hx9;clear O S T L hx9;go_wp2_with fail
         go_region_law (first
          | (refine step_append_lies _ rfl _ _ 50 rfl w9.heap.size 9 iI9 (.string ⟨#[]⟩) 1 16 underlying50 hi9 hz09 hz19 hz29 rfl (by decide) (qS a9 k9 c9) k9 (x9.flatMap clT) rfl HOW.o (qR wa.heap.size 0) 1 1 (clT x) rfl rfl (aN wa _ _ (clT x) rfl) (by intro u hu;simp [clI,clT] at hu;subst hu;rfl) (by decide) (by unfold maxLen;omega) (by omega) (by simp;omega) _ rfl ?_;intro g4 c4 w4 hown hgr hat hlt4;obtain ⟨p4,f4⟩:=(SAL.o.grown hgr (fun j hj=>(OAL.o.lt j hj).1) (by omega)).two 6 (qS a9 k9 c9) rfl)
          | (go_simp;go_at_call 32;refine (Ss.text (w:=w) (b:=b) (n:=n) (cap:=cap) (zs:=zs) (st:=some r) (cs:=(qM nm a1 tz.length d1 a7 k7 c7 a3 dz.length d3 (m6:Int) a8 k8 c8 a9 k9 c9 none 0 0)) (by first|exact HO.o.2.1|exact HO.o.2.1.drew)).mono ?_;rintro e wa ⟨x,s4,rfl,La,SA,Ta⟩;have Ta':Turn (Sg w) wr9 wa:=⟨Ta.os,Ta.tape,Ta.output,Ta.size,Ta.block⟩;have al:qY wa (wa.alloc (.cells #[.string x] 9)):=bal;obtain ⟨pa,fa⟩:=SA.two 6 (qS a9 k9 c9) rfl;have hsa:=SA.sz;have hsa3:=Ta'.size;have OAL:=zh ((HO.o.1.turn Ta' (fun j hj=>by unfold Sg at hj;omega)).turn (S:=fun _=>False) (aJ al) (fun j hj=>absurd hj id));have SAL:=zh (SA.bw al);obtain ⟨pb,fb⟩:=SAL.o.two 6 (qS a9 k9 c9) rfl;have HOW:=zh (show (wa.alloc (.cells #[.string x] 9)).ownsRow w9.heap.size 9 1 (qS a9 k9 c9) k9 (x9.flatMap clT) by have:=OAL.o;unfold OG at this;rw [HBL.o] at this;exact this);have HX:=zh (xA (True.intro) (xA Ta' La));clear Ta Ta' La al SA))
         all_goals
          obtain ⟨O,S,T,L⟩:=HO.o;obtain ⟨ox,Ta,La⟩:=HX.o;have hrow:∀ j,(qS a9 k9 c9).ownBlock=some j->w9.heap.size<=j:=fun j hj=>(OAL.o.lt j hj).1
          have O4:OG 9 1 clT w4 w9.heap.size (qS (qP g4) (k9+1) c4) (x9++[x]):=by
           unfold OG;rw [xI,HBL.o,xU,xX];exact hown
          have O5:=O4.turn (aC w4 (w.heap.size+3) 6 (qS (qP g4) (k9+1) c4)) (fun j hj=>by omega);clear O4;have S5:Ss w (w4.setCell (qR (w.heap.size+3) 6) (qS (qP g4) (k9+1) c4)) b n cap zs s4 (qM nm a1 tz.length d1 a7 k7 c7 a3 dz.length d3 (m6:Int) a8 k8 c8 (qP g4) (k9+1) c4 none 0 0):=(SAL.o.grown hgr hrow (by omega)).set 6 (qS (qP g4) (k9+1) c4);have T5:Turn (Sg w) w9 (w4.setCell (qR (w.heap.size+3) 6) (qS (qP g4) (k9+1) c4)):=(bO ((T.trans Ta).trans (aD _ _)) hgr hrow).trans (Sg.b 6 (qS (qP g4) (k9+1) c4));have L5:=L.step hlt9 La;have HF:=zh (xA O5 (xA S5 (xA T5 L5)));have HLE:=zh (show (x9++[x]).length=k9+1 by rw [xI,HBL.o];rfl);have HDEC:=zh (show ((m9-k9:Nat):Int)-1=((m9-(k9+1):Nat):Int) by omega);clear O S T L ox Ta La hrow O5 S5 T5 L5 HO HX OAL SAL HOW hown hgr hat hlt4 p4 f4 pa fa pb fb;go_wp2
          go_roundw
          .exact ⟨k9+1,x9++[x],s4,some (qR g4 0),c4,by omega,by rw [<- HDEC.o],HLE.o,HF.o.1,HF.o.2.1,HF.o.2.2.1,HF.o.2.2.2⟩
          .simp [intOf];omega
      .have hlt':¬ (0:Int)<((m9-k9:Nat):Int):=by omega
       have hkm9:k9=m9:=by omega
       have HL9:=zh (L.done (.inl hkm9) hk9);have HX9:=zh hx9;have HA2:=zh (HST.o _ _ T HA.o);have HB:=zh O;have HT:=zh T.size;have E:=S;clear HA L T O S hx9 hkm9;have HA:=HA2;clear HA2;have HAn:=zh (xA HA.o (HB.o.mono hsz9));have HSTn:=zh (HST.o.and (vQ (w:=w) (t:=9) (sz:=1) (f:=clT) (v:=qS a9 k9 c9) (xs:=x9) aL));clear HA HST HB;have HA:=HAn;have HST:=HSTn;clear HAn HSTn q2;go_wp2_with fail
       refine (E.num 1 (Or.inl rfl)).mono ?_;rintro e w10 ⟨m10,s10,rfl,hl10,hm10,L,En,T⟩;have hm10:=hm10 rfl;have HL10n:=zh L;have HA2:=zh (HST.o _ _ T HA.o);clear HA L T E;have HA:=HA2;have E:=En;clear HA2 En;obtain ⟨iI10,hi10,hz010,hz110,hz210⟩:=info_parts aDv;have hsz10:=E.sz;go_wp2_with fail
       go_loopw [10] (fun i wr=>∃ (k:Nat) (xs:List Ex) (s':Option (List Int)) (a:qO) (c:Nat),k<=m10/\i=qI ((m10-k:Nat):Int)/\xs.length=k/\OG 91 3 clX wr w10.heap.size (qS a k c) xs/\Ss w wr b n cap zs s' (qM nm a1 tz.length d1 a7 k7 c7 a3 dz.length d3 (m6:Int) a8 k8 c8 a9 k9 c9 a k c)/\Turn (Sg w) w10 wr/\Lm pX m10 k s10 xs s') (fun i _=>(intOf i).toNat)
       .exact ⟨0,[],s10,none,0,xC _,rfl,rfl,cE _ _ _ _ _,E,Turn.refl _ _,lZ _ _ _⟩
       .obtain ⟨k10,x10,r10,a10,c10,hk10,rfl,hx10,O,S,T,L⟩:=hrel;generalize wr=wr10 at *;clear E;have q2:=S.short;by_cases hlt10:k10<m10
        .have hlt':(0:Int)<((m10-k10:Nat):Int):=by omega
         cases r10 with
         | none=>
           simp at q2;have HP:=zh (gR (rX HLt.o HLw.o HL3n.o HL7.o HL4n.o HLb.o HL6n.o HL8n.o HL8.o HL9n.o HL9.o HL10n.o (L.done (.inr rfl) hk10) ));clear O T L HA HST HLt HLw HL3n HL7 HL4n HLb HL6n HL8n HL8 HL9n HL9 HL10n;have qs:=S.short;simp at qs;obtain ⟨u0,u1,u2,u3,u4,u5,u6,u7⟩:=aY S.k1;obtain ⟨p0,p1,p2,p3,p4,p5,p6,p7⟩:=aY S.k0;obtain ⟨y0,y1,y2,y3,y4,y5,y6,y7⟩:=cO S.k0;have HE:=zh S;clear S;go_wp2;exact fK HE.o.be HE.o.k0 2 _ HP.o _ rfl rfl
         | some r=>
           simp at q2;have al:qY wr10 (wr10.alloc (.cells #[.string ⟨#[]⟩,qI 0,qI 0] 91)):=bal;have X0:=Blk.new wr10 #[.string ⟨#[]⟩,qI 0,qI 0] 91;have S0:=S.bw al;have hszw:=S.sz;have hsz3:=T.size;have HO:=zh (xA O (xA T L));have HBL:=zh hx10;have HT0:=zh (aD wr10 (.cells #[.string ⟨#[]⟩,qI 0,qI 0] 91) |>.mono (S':=Sg w) (fun j hj=>absurd hj id));clear O S T L hx10 al;go_wp2_with fail
           refine S0.text.mono ?_;rintro e y1 ⟨nx,z1,rfl,La,S1,T1⟩;have X1:=aA T1 X0 (by unfold Sg;omega);have q0:=X1.e0;have f0:=X1.frozen 0;have HT1:=zh (HT0.o.trans T1);have S1:=S1.other (g:=wr10.heap.size) 0 (.string nx) hszw;have X1:=X1.s0 (.string nx);have HT1:=zh (bB HT1.o aL 0 (.string nx));clear S0 X0 T1 HT0;go_wp2_with fail
           refine (S1.num 1 (Or.inl rfl)).mono ?_;rintro e y2 ⟨bk,z2,rfl,hbk0,hbk,Lb,S2,T2⟩;have hbk:=hbk rfl;have X2:=aA T2 X1 (by unfold Sg;omega);have q1:=X2.e1;have f1:=X2.frozen 1;have hwb:IntKind.i64.wrap ((bk:Int)-1)=(bk:Int)-1:=by rw [IntKind.wrap_i64];omega
           have HT2:=zh (HT1.o.trans T2);have S2:=S2.other (g:=wr10.heap.size) 1 (qI ((bk:Int)-1)) hszw;have X2:=X2.s1 (qI ((bk:Int)-1));have HT2:=zh (bB HT2.o aL 1 (qI ((bk:Int)-1)));clear S1 X1 T2 HT1 q0 f0;go_wp2_with fail
           refine (S2.num 2 (Or.inr rfl)).mono ?_;rintro e y3 ⟨ea,s4,rfl,hea,_,Lc,S3,T3⟩;have X3:=aA T3 X2 (by unfold Sg;omega);have q3:=X3.e2;have f3:=X3.frozen 2;have HT3:=zh (HT2.o.trans T3);have S3:=S3.other (g:=wr10.heap.size) 2 (qI (ea:Int)) hszw;have X3:=X3.s2 (qI (ea:Int));have HT3:=zh (bB HT3.o aL 2 (qI (ea:Int)));have Lx:=aOo La Lb Lc;clear S2 X2 T3 HT2 q1 f1 La Lb Lc;obtain ⟨W5,hW5⟩:=eqx (y3.setCell ⟨wr10.heap.size,2,none⟩ (qI (ea:Int)));have HS5:=zh (show W5.heap.size=y3.heap.size by rw [hW5];exact aG _ _ _);have al5:qY W5 (W5.alloc (.cells #[.string nx,qI ((bk:Int)-1),qI (ea:Int)] 91)):=bal;rw [<- hW5] at S3 X3 HT3;obtain ⟨xa,xb,xc,_⟩:=X3.three;obtain ⟨pa,fa⟩:=S3.two 7 (qS a10 k10 c10) rfl;have hsz5:=HT3.o.size;have OAL:=zh ((HO.o.1.turn HT3.o (fun j hj=>by unfold Sg at hj;omega)).turn (S:=fun _=>False) (aJ al5) (fun j hj=>absurd hj id));have HOW:=zh (show (W5.alloc (.cells #[.string nx,qI ((bk:Int)-1),qI (ea:Int)] 91)).ownsRow w10.heap.size 91 3 (qS a10 k10 c10) k10 (x10.flatMap clX) by have:=OAL.o;unfold OG at this;rw [HBL.o] at this;exact this);have HS:=zh (S3.bw al5);have HTT:=zh ((HO.o.2.1.trans HT3.o).trans (aD W5 (.cells #[.string nx,qI ((bk:Int)-1),qI (ea:Int)] 91)));have HLE:=zh (show (x10++[((nx,((bk:Int)-1),(ea:Int)):Ex)]).length=k10+1 by rw [xI,HBL.o];rfl);rw [hW5] at xa xb xc pa fa;clear S3 X3 al5 HT3;go_wp2_with (at_builtin;rw [<- hW5];refine wpList_append_own _ rfl _ _ 51 rfl w10.heap.size 91 iI10 (.agg #[.string ⟨#[]⟩,qI 0,qI 0]) 3 32 underlying51 hi10 hz010 hz110 hz210 rfl (by decide) (qS a10 k10 c10) k10 (x10.flatMap clX) rfl HOW.o (qR y3.heap.size 0) 1 1 (clX (nx,((bk:Int)-1),(ea:Int))) rfl rfl (by rw [<- HS5.o];exact aN W5 _ _ (clX (nx,((bk:Int)-1),(ea:Int))) rfl) (by intro u hu;simp [clX] at hu;rcases hu with rfl|rfl|rfl<;>rfl) (by unfold maxLen;omega) (by omega) (by simp;omega) ?_;intro v' w4 hown hgr _;have hrow:∀ j,(qS a10 k10 c10).ownBlock=some j->w10.heap.size<=j:=fun j hj=>(OAL.o.lt j hj).1;have O4:OG 91 3 clX w4 w10.heap.size v' (x10++[(nx,((bk:Int)-1),(ea:Int))]):=(by unfold OG;rw [xI,HBL.o,xU,xX];exact hown);have S4:=HS.o.grown hgr hrow (by omega);obtain ⟨g4,c4,rfl⟩:=aO O4;rw [HLE.o] at O4 ⊢;obtain ⟨p4,f4⟩:=S4.two 7 (qS a10 k10 c10) rfl;have T4:=bO HTT.o hgr hrow;have H4:=zh (xA O4 (xA S4 T4));clear O4 S4 T4 hown hgr hrow OAL HOW HS HTT xa xb xc pa fa)
           obtain ⟨O4,S4,T4⟩:=H4.o;have O5:=O4.turn (aC w4 (w.heap.size+3) 7 (qS g4 (k10+1) c4)) (fun j hj=>by omega);have S5:Ss w (w4.setCell (qR (w.heap.size+3) 7) (qS g4 (k10+1) c4)) b n cap zs s4 (qM nm a1 tz.length d1 a7 k7 c7 a3 dz.length d3 (m6:Int) a8 k8 c8 a9 k9 c9 g4 (k10+1) c4):=S4.set 7 (qS g4 (k10+1) c4);have T5:=T4.trans (Sg.b (w:=w) 7 (qS g4 (k10+1) c4));have L5:=HO.o.2.2.step hlt10 Lx;have HF:=zh (xA O5 (xA S5 (xA T5 L5)));have HDEC:=zh (show ((m10-k10:Nat):Int)-1=((m10-(k10+1):Nat):Int) by omega);clear O4 S4 T4 O5 S5 T5 L5 H4 HO;go_wp2
           go_roundw
           .exact ⟨k10+1,x10++[((nx,((bk:Int)-1),(ea:Int)):Ex)],s4,g4,c4,by omega,by rw [<- HDEC.o],HLE.o,HF.o.1,HF.o.2.1,HF.o.2.2.1,HF.o.2.2.2⟩
           .simp [intOf];omega
        .have hlt':¬ (0:Int)<((m10-k10:Nat):Int):=by omega
         have hkm10:k10=m10:=by omega
         have HL10:=zh (L.done (.inl hkm10) hk10);have HX10:=zh hx10;have HA2:=zh (HST.o _ _ T HA.o);have HB:=zh O;have HT:=zh T.size;have E:=S;clear HA L T O S hx10 hkm10;have HA:=HA2;clear HA2;have LP:=rX HLt.o HLw.o HL3n.o HL7.o HL4n.o HLb.o HL6n.o HL8n.o HL8.o HL9n.o HL9.o HL10n.o HL10.o;clear HLt HLw HL3n HL7 HL4n HLb HL6n HL8n HL8 HL9n HL9 HL10n HL10;have HAn:=zh (xA HA.o (HB.o.mono hsz10));clear HA HST HB;cases r10 with
         | none=>
           have HP:=zh (gR LP);clear LP;have qs:=E.short;simp at qs;obtain ⟨u0,u1,u2,u3,u4,u5,u6,u7⟩:=aY E.k1;obtain ⟨p0,p1,p2,p3,p4,p5,p6,p7⟩:=aY E.k0;obtain ⟨y0,y1,y2,y3,y4,y5,y6,y7⟩:=cO E.k0;have HE:=zh E;clear E;go_wp2;exact fK HE.o.be HE.o.k0 2 _ HP.o _ rfl rfl
         | some r=>
           simp at q2;obtain ⟨hpm,hpr⟩:=aEy LP;clear LP;have e7:=HX7.o;have e8:=HX8.o;have e9:=HX9.o;have e10:=HX10.o;subst e7 e8 e9 e10;have HR:=zh (aGm (HBY.o.drop 2) hpm).1;have HPR:=zh hpr;obtain ⟨kk,hkk,hkb,hkr⟩:=E.rd.pos;have hkr:=hkr r rfl;have hrl:r.length=n-kk:=by rw [hkr,List.length_drop,hl]
           obtain ⟨g0,g1,g2,_⟩:=hkb.three;clear hkr hkb hpm hpr;have HE:=zh E;by_cases hr0:r=[]
           .have hcm:¬ (kk:Int)<(n:Int):=by rw [hr0] at hrl;simp at hrl;omega
            have hpr:=HPR.o;rw [if_neg (by simp [hr0])] at hpr;have HP3:=zh hpr;clear hpr HPR;obtain ⟨⟨⟨⟨⟨o1,o2⟩,o3⟩,o5⟩,o6⟩,o7⟩:=HAn.o;have MO:ModO wr10 (w.heap.size+4) (⟨nm,tz,x7.map (fun B=>B.2.2.2),dz,(m6:Int),x8,x9,x10⟩:PMod) a1 d1 a7 c7 x7 a3 d3 a8 c8 a9 c9 a10 c10:=⟨o1,o2,rfl,o3,o5,o6,o7,fun k hk B hB e=>by have h1:=HT1.o k hk;have h2:=(HB8.o B hB k e).1;omega,fun k hk e=>by have h1:=HT8.o k hk;have h2:=HSR.o k e;omega,fun k hk B hB e=>by have h1:=HSR.o k hk;have h2:=(HB8.o B hB k e).2;omega⟩;clear o1 o2 o3 o5 o6 o7 HAn HT1 HB8 HT8 HSR;obtain ⟨j0,j1,j2,j3,j4,j5,j6,j7⟩:=E.k2.eight';have HMO:=zh MO;obtain ⟨V,hV⟩:=eqx (bI (⟨nm,tz,x7.map (fun B=>B.2.2.2),dz,(m6:Int),x8,x9,x10⟩:PMod));have hq:mdo nm tz.length tz x7.length x7 dz.length (m6:Int) x8.length x8 x9.length x9 x10.length x10=V:=MO.mdo.trans hV.symm;have hmr:=jU nm tz.length tz x7.length x7 dz.length (m6:Int) x8.length x8 x9.length x9 x10.length x10;rw [hq] at hmr;have HMD:Zh (MD wr10 nm a1 tz.length d1 tz a7 x7.length c7 x7 a3 dz.length d3 dz (m6:Int) a8 x8.length c8 x8 a9 x9.length c9 x9 a10 x10.length c10 x10):=zh (MO.md HR.o);have HOK:=zh (fun W (hb:qY wr10 W)=>dX nm a1 tz.length d1 tz a7 x7.length c7 x7 a3 dz.length d3 dz (m6:Int) a8 x8.length c8 x8 a9 x9.length c9 x9 a10 x10.length c10 x10 W (HMD.o.bw hb));rw [hq] at HOK;have HV:=zh hV;clear hV MO E hq HR;go_wp2_with fail
            refine (HOK.o wr10 brf).mono ?_;rintro e w11 ⟨rfl,hb11⟩;have HE1:=zh (HE.o.bw hb11);have HMO1:=zh (HMO.o.turn (S:=fun _=>False) (aJ hb11) (fun k hk=>absurd hk id));have HB11:=zh hb11;clear HE HMO hb11 j0 j1 j2 j3 j4 j5 j6 j7 g0 g1 g2;obtain ⟨j0,j1,j2,j3,j4,j5,j6,j7⟩:=HE1.o.k2.eight';by_cases hz:V=0
            .have HP:=zh (show wF zs=(0,some (⟨nm,tz,x7.map (fun B=>B.2.2.2),dz,(m6:Int),x8,x9,x10⟩:PMod)) by rw [HP3.o,if_neg];rw [<- HV.o];simp [hz]);subst hz;clear HP3 HOK;obtain ⟨p0,p1,p2,p3,p4,p5,p6,p7⟩:=aY HE1.o.k0;obtain ⟨y0,y1,y2,y3,y4,y5,y6,y7⟩:=cO HE1.o.k0;go_wp2;exact aJx HE1.o.be HE1.o.k0 HMO1.o _ HP.o _ rfl rfl
            .have HP:Zh (wF zs=(10+V,none)):=HP3.o.trans (by rw [<- HV.o,if_pos hz]);have hz':(V !=0)=true:=by simp [hz]
             have hw10:IntKind.i64.wrap (10+V)=10+V:=bC _ (by omega) (by omega);clear HP3;obtain ⟨u0,u1,u2,u3,u4,u5,u6,u7⟩:=aY HE1.o.k1;obtain ⟨p0,p1,p2,p3,p4,p5,p6,p7⟩:=aY HE1.o.k0;obtain ⟨y0,y1,y2,y3,y4,y5,y6,y7⟩:=cO HE1.o.k0;go_wp2_with fail
             go_region_law (first
              | (go_simp;go_at_call 36;refine (HOK.o _ (by first|exact HB11.o|exact HB11.o.drew)).mono ?_;rintro e w12 ⟨rfl,hb12⟩;have HE2:=zh (show Ss w w12 b n cap zs (some r) _ from (by first|exact HE1.o.bw hb12|exact HE1.o.drew.bw hb12));obtain ⟨v0,v1,v2,v3,v4,v5,v6,v7⟩:=aY HE2.o.k1;obtain ⟨q0,q1,q3,q4,q5,q6,q7,q8⟩:=aY HE2.o.k0;obtain ⟨x0,x1,x2,x3,x4,x5,x6,x71⟩:=cO HE2.o.k0;obtain ⟨k0,k1,k2,k3,k4,k5,k6,k7⟩:=HE2.o.k2.eight';clear hb12))
             all_goals
              go_wp2;exact fK HE2.o.be HE2.o.k0 (10+V) _ HP.o _ rfl rfl
           .have hcm:(kk:Int)<(n:Int):=by have:r.length≠0:=fun h=>hr0 (List.length_eq_zero_iff.1 h);omega
            have HP:=zh (show wF zs=(3,none) by rw [HPR.o,if_pos hr0]);obtain ⟨u0,u1,u2,u3,u4,u5,u6,u7⟩:=aY E.k1;obtain ⟨p0,p1,p2,p3,p4,p5,p6,p7⟩:=aY E.k0;obtain ⟨y0,y1,y2,y3,y4,y5,y6,y7⟩:=cO E.k0;clear HPR E;go_wp2;exact fK HE.o.be HE.o.k0 3 _ HP.o _ rfl rfl
theorem aI6 {zs:qi}(hz:Byt zs)(h:zs.length<=20000/\2<=zs.length/\zs.getD 0 0=88/\zs.getD 1 0=77):wF zs=prs zs:=by
 unfold prs;rw [if_neg (by omega),if_neg (by rw [(wZ hz).2 ⟨h.2.1,h.2.2.1,h.2.2.2⟩];decide)];rfl
theorem gN (b n cap:Nat)(zs:qi)(w:qw)(h:BS w (qP b) n cap zs)(hn:n<=1048576)(hb:b<w.heap.size):
 qC 14 #[qS (qP b) n cap] w (dP w (prs zs)):=by
 have hl:=h.1;by_cases c:n<=20000/\2<=n/\zs.getD 0 0=88/\zs.getD 1 0=77
 .rw [<- aI6 h.2.2.1 (by rw [hl];exact c)];exact zX b n cap zs w h c.1 hb c.2.1 c.2.2.1 c.2.2.2
 .exact aBv b n cap zs w h hn hb c
def P0:PMod:=⟨⟨#[]⟩,[],[],[],0,[],[],[]⟩
def pOf (zs:qi):PMod:=(prs zs).2.getD P0
theorem aJz (W:qw)(base:Nat):ModO W base P0 none 0 none 0 [] none 0 none 0 none 0 none 0:=
 ⟨cE _ _ _ _ _,wQ _ _,rfl,⟨⟨rfl,.inl ⟨rfl,rfl⟩⟩,fun z hz=>by simp [P0] at hz⟩,cE _ _ _ _ _,cE _ _ _ _ _,cE _ _ _ _ _,fun k hk=>by simp [Value.ownBlock] at hk,fun k hk=>by simp [Value.ownBlock] at hk,fun k hk=>by simp [Value.ownBlock] at hk⟩
theorem qG {zs:qi}{c:Int}(h:prs zs=(c,some P)):c=0/\bI P=0/\∃ r,cZ (zs.drop 2)=some (P,r):=by
 unfold prs at h;split at h
 .simp at h
 split at h
 .simp at h
 split at h
 .simp at h
 .rename_i x hx;split at h
  .simp at h
  split at h
  .simp at h
  .rename_i h1 h2;simp at h;obtain ⟨rfl,rfl⟩:=h;exact ⟨rfl,by simpa using h2,x.2,by rw [hx]⟩
def PaM (w:qw)(zs:qi)(e:Ending)(w':qw):Prop:=qY w w'/\∃ a1 c1 a2 c2 bl a3 c3 a5 c5 a6 c6 a7 c7,e=.returned (.tuple #[.agg (fL (pOf zs) a1 c1 a2 c2 bl a3 c3 a5 c5 a6 c6 a7 c7),qI (prs zs).1])/\ModO w' w.heap.size (pOf zs) a1 c1 a2 c2 bl a3 c3 a5 c5 a6 c6 a7 c7
theorem aL9 {w w':qw}{zs:qi}{e:Ending}(h:dP w (prs zs) e w'):PaM w zs e w':=by
 obtain ⟨hb,h⟩:=h;refine ⟨hb,?_⟩;unfold pOf;cases ep:(prs zs).2 with
 | none=>
   rw [ep] at h;exact ⟨none,0,none,0,[],none,0,none,0,none,0,none,0,h,aJz _ _⟩
 | some P=>
   rw [ep] at h;exact h
theorem aAo {nm:ByteArray}{ta:qO}{tn tc:Nat}{tz:qi}{ba:qO}{bn bc:Nat}{da:qO}{dn dc:Nat}{dz:qi}{bss:Int}{ra:qO}{rn rc:Nat}{rz:qi}{ia:qO}{im ic:Nat}{ss:List ByteArray}{ea:qO}{en ec:Nat}{es:List Ex}{w:qw}(h:MD w nm ta tn tc tz ba bn bc bl da dn dc dz bss ra rn rc rz ia im ic ss ea en ec es):MT w nm ta tn tc tz ba bn bc bl da dn dc dz bss ra rn rc rz ia im ic ss ea en ec es where
 n:=by have:=h.n;unfold maxLen;omega
 t:=h.t
 b:=h.b
 d:=h.d
 s:=h.s
 r:=h.r
 i:=by
  obtain ⟨h1,h2,h3,h4,h5⟩:=h.i;refine ⟨h1,h2,fun i=>?_,h4,h5⟩;by_cases hi:i<ss.length
  .have:=h3 (ss.getD i zS) (by simp [xB,hi]);unfold maxLen;omega
  .rw [xB,xO (by omega)];decide
 e:=by
  obtain ⟨h1,h2,h3,h4,h5⟩:=h.e;refine ⟨h1,h2,fun i=>?_,h4,h5⟩;by_cases hi:i<es.length
  .have:=h3 (es.getD i zE) (by simp [xB,hi]);unfold maxLen;omega
  .rw [xB,xO (by omega)];decide
def bkF (bl:List Bk)(i:Nat):qO×Nat×Nat:=((bl.getD i zB).1,(bl.getD i zB).2.1,(bl.getD i zB).2.2.1)
def bkX (bl:List Bk)(i:Nat):List Int:=(bl.getD i zB).2.2.2
theorem aDh {w:qw}{v:Value}{xs:qi}(h:OG 3 1 clI w base v xs)(hx:∀ z∈xs,wfi z):OI w base v xs:=by
 unfold OG at h;rw [mM] at h;exact ⟨h,hx⟩
theorem aMe {w:qw}(h:OBk w base (qS a bl.length c) bl)(hx:∀ B∈bl,∀ z∈B.2.2.2,wfi z):Rr w base a bl.length (bkF bl) (bkX bl):=by
 have hmem:∀ i,i<bl.length->bl.getD i zB∈bl:=fun i hi=>by simp [xB,hi]
 have rows:∀ i,i<bl.length->OI w base (.slice (bkF bl i).1 (bkF bl i).2.1 (bkF bl i).2.2) (bkX bl i):=fun i hi=>aDh (h.rows _ (hmem i hi)).2 (hx _ (hmem i hi));refine ⟨fun hn=>?_,rows,fun i j hi hj hij k hk=>?_⟩
 .obtain ⟨hl,⟨h0,h1⟩|⟨g,cap,cur,hv,hg,hh,h1,h2,h3,h4⟩⟩:=h.head
  .exact absurd h1 hn
  .simp at hv;refine ⟨g,cur,hv.1,fun ⟨i,hi,e⟩=>?_,hh,fun i hi=>?_⟩
   .obtain ⟨c1,k1⟩:=aM (rows i hi).1 e;exact absurd (aW k1 hh) (by decide)
   .have:(cur.toList.take (bl.length*1))[i]?=(bl.map fun B=>qS B.1 B.2.1 B.2.2.1)[i]?:=by rw [h4]
    rw [List.getElem?_take] at this;rw [if_pos (by omega)] at this;rw [<- Array.getElem?_toList,this];simp [bkF,xB,hi]
 .have hp:=List.pairwise_iff_getElem.1 h.apart;have gi:bl.getD i zB=bl[i]:=by simp [xB,hi]
  have gj:bl.getD j zB=bl[j]:=by simp [xB,hj]
  unfold bkF at hk ⊢;rw [gi] at hk;rw [gj];rcases Nat.lt_or_gt_of_ne hij with h'|h'
  .exact hp i j hi hj h' k hk
  .exact fun e=>hp j i hj hi h' k e hk
theorem ModO.m6G {W:qw}(h:ModO W base P a1 c1 a2 c2 bl a3 c3 a5 c5 a6 c6 a7 c7)(R:PmG P):
 M6 W base (qS a1 P.tz.length c1) (qS a3 P.dz.length c3) (qS a5 P.rz.length c5) (qS a6 P.ss.length c6) (qS a7 P.es.length c7) a2 bl.length (bkF bl) P.tz (bkX bl) P.dz P.rz P.ss P.es where
 t:=aDh h.t R.t.2
 b:=aMe h.b (fun B hB z hz=>by
  have hm:B.2.2.2∈P.bl:=by rw [<- h.bls];exact List.mem_map.2 ⟨B,hB,rfl⟩
  exact (R.b.2 _ hm).2 z hz)
 d:=h.d
 r:=aDh h.r R.r.2
 i:=h.i
 e:=h.e
 tr:=h.tr
 tb:=fun k hk ⟨i,hi,e⟩=>h.tb k hk _ (by simp [xB,hi]) e
 rb:=fun k hk ⟨i,hi,e⟩=>h.br k hk _ (by simp [xB,hi]) e
theorem ModO.same {W W':qw}{base':Nat}{a1':qO}{c1':Nat}{a2':qO}{c2':Nat}{bl':List Bk}{a3':qO}{c3':Nat}{a5':qO}{c5':Nat}{a6':qO}{c6':Nat}{a7':qO}{c7':Nat}(h:ModO W base P a1 c1 a2 c2 bl a3 c3 a5 c5 a6 c6 a7 c7)(h':ModO W' base' P a1' c1' a2' c2' bl' a3' c3' a5' c5' a6' c6' a7' c7'):bl.length=bl'.length/\∀ i,i<bl.length->(bl'.getD i zB).2.1=(bl.getD i zB).2.1/\(bl'.getD i zB).2.2.2=(bl.getD i zB).2.2.2:=by
 have e:bl.map (fun B=>B.2.2.2)=bl'.map (fun B=>B.2.2.2):=h.bls.trans h'.bls.symm;have hl:bl.length=bl'.length:=by have:=congrArg List.length e;simpa using this
 refine ⟨hl,fun i hi=>?_⟩
 have e2:(bl.getD i zB).2.2.2=(bl'.getD i zB).2.2.2:=by
  have:=congrArg (fun l=>l[i]?) e;simp [hi,show i<bl'.length by omega] at this;simpa [xB,hi,show i<bl'.length by omega] using this
 have m1:bl.getD i zB∈bl:=by simp [xB,hi]
 have m2:bl'.getD i zB∈bl':=by simp [xB,show i<bl'.length by omega]
 exact ⟨by rw [(h'.b.rows _ m2).1,(h.b.rows _ m1).1,e2],e2.symm⟩
def aOh (i:Int):Int:=if 32768<=i then i-65536 else i
def ev (op i nx:Int):Int×Int:=if op=1 then (1,0) else if op=23 then (2,(nx+4*aOh i)%4294967296) else if op=24 then (3,i) else if op=25 then (4,0) else (0,0)
theorem aCp (W:qw)(row:Option Nat):W.grownBy W row:=⟨rfl,rfl,rfl,aL,fun _ _ _=>rfl⟩
def Srd {α:Type}(f:α->List Value)(W:qw)(a:qO)(n c:Nat)(ys:List α):Prop:=ys.length=n/\((a=none/\n=0/\c=0)\/∃ g off,a=some (qR g off)/\∀ j u,(ys.flatMap f)[j]?=some u->W.cell? (qR g (off+j))=some u)
theorem Srd.bw {α:Type}{f:α->List Value}{W W':qw}{ys:List α}(h:Srd f W a n c ys)(hb:qY W W'):Srd f W' a n c ys:=by
 obtain ⟨h1,h2|⟨g,off,e,h3⟩⟩:=h
 .exact ⟨h1,.inl h2⟩
 .exact ⟨h1,.inr ⟨g,off,e,fun j u hu=>(hb.cell (xD W _ (h3 j u hu))).trans (h3 j u hu)⟩⟩
theorem nB {α:Type}{t:TypeId}{sz:Nat}{f:α->List Value}{W:qw}{b:Nat}{ys:List α}(h:OG t sz f W b (qS a n c) ys):Srd f W a n c ys:=by
 obtain ⟨a',c',e⟩:=aO h;simp only [Value.slice.injEq] at e;obtain ⟨rfl,rfl,rfl⟩:=e;refine ⟨rfl,?_⟩;obtain ⟨_,⟨h0,_⟩|⟨g,cap,cur,hv,_⟩⟩:=id h
 .simp only [Value.slice.injEq] at h0;exact .inl h0
 .simp only [Value.slice.injEq] at hv;obtain ⟨rfl,-,rfl⟩:=hv;exact .inr ⟨g,0,rfl,fun j u hu=>by have q:=World.ownsRow.cells h (g:=g) rfl j u hu;rwa [bZ] at q⟩
theorem zQ {α:Type}{f:α->List Value}{ac:Act}{K:Act->World->Prop}{Q:Exit->Act->World->Prop}{W:qw}(s x:Operand)(t:TypeId)
 (ho:o.op=.call { callee:=.builtin .append,args:=#[s,x],argTypes:=#[t,t] })
 (base:Nat) (e:TypeId) (i:TypeInfo) (z:Value) (size bytes:Nat) (ht:prog.underlying t=some (.slice e)) (hi:prog.info? e=some i) (hz:i.zero=some z)
 (hsize:i.size=size) (hby:i.bytes=bytes) (hzs:z.cells.size=size) (hsz:0<size)
 (v:Value) (xs:List α) (hs:ac.eval s=v) (hown:OG e size f W base v xs)
 (sa:qO) (sn sc:Nat) (ys:List α) (hx:ac.eval x=qS sa sn sc) (src:Srd f W sa sn sc ys) (hf:∀ y,(f y).length=size) (h1:∀ y,∀ u∈f y,u.oneCell'=true)
 (h63:xs.length+ys.length<=maxLen) (hbytes:(xs.length+ys.length)*bytes<=140737488355328) (hbase:base<=W.heap.size)
 (h:∀ v' w',OG e size f w' base v' (xs++ys)->W.grownBy w' v.ownBlock->K (ac.put o.dst v') w'):o.wp prog ac W K Q:=by
 have key:∀ {v':Value} {w':qw},w'.ownsRow base e size v' (xs.length+ys.length) (xs.flatMap f++ys.flatMap f)->OG e size f w' base v' (xs++ys):=fun hq=>by
  unfold OG;rw [xI,xU];exact hq
 obtain ⟨rfl,⟨rfl,hn,rfl⟩|⟨g,off,rfl,hcl⟩⟩:=src
 .obtain rfl:ys=[]:=xE hn;have hrun:=run_append_owned_none (P:=prog) (w:=W) base t o.type e i size ht hi v xs.length (xs.flatMap f) hown;unfold Oper.wp;simp [execOp,ho,resolve,invoke,builtin,hs,hx,hrun,Result.andThen];exact h v W (by rw [List.append_nil];exact hown) (aCp _ _)
 .have hl:(ys.flatMap f).length=ys.length*size:=by
   clear hcl h key hx h63 hbytes
   induction ys with
   | nil=>simp
   | cons y ys ih=>rw [xT,xI,hf,ih,List.length_cons,Nat.add_mul];omega
  refine wp_append_own W s x t ho base e i z size bytes ht hi hz hsize hby hzs hsz v xs.length (xs.flatMap f) hs hown (qR g off) ys.length sc (ys.flatMap f) hx hl (fun j u hu=>by rw [bZ];exact hcl j u hu) (fun u hu=>?_) h63 hbytes hbase fun v' w' q1 q2 _=>h v' w' (key q1) q2;rw [List.mem_flatMap] at hu;obtain ⟨y,_,hu⟩:=hu;exact h1 y u hu
theorem fM {α:Type}{f:α->List Value}{ops:Array Oper}{rest:List Oper}{ac:Act}{Q:Exit->Act->World->Prop}{W:qw}(hgd:o.guard=none)(s x:Operand)(t:TypeId)
 (ho:o.op=.call { callee:=.builtin .append,args:=#[s,x],argTypes:=#[t,t] })
 (base:Nat) (e:TypeId) (i:TypeInfo) (z:Value) (size bytes:Nat) (ht:prog.underlying t=some (.slice e)) (hi:prog.info? e=some i) (hz:i.zero=some z)
 (hsize:i.size=size) (hby:i.bytes=bytes) (hzs:z.cells.size=size) (hsz:0<size)
 (v:Value) (xs:List α) (hs:ac.eval s=v) (hown:OG e size f W base v xs)
 (sa:qO) (sn sc:Nat) (ys:List α) (hx:ac.eval x=qS sa sn sc) (src:Srd f W sa sn sc ys) (hf:∀ y,(f y).length=size) (h1:∀ y,∀ u∈f y,u.oneCell'=true)
 (h63:xs.length+ys.length<=maxLen) (hbytes:(xs.length+ys.length)*bytes<=140737488355328) (hbase:base<=W.heap.size)
 (h:∀ v' w',OG e size f w' base v' (xs++ys)->W.grownBy w' v.ownBlock->wpList prog ops Q rest (ac.put o.dst v') w'):wpList prog ops Q (o::rest) ac W:=
 wpList_plain hgd fun _ hK=>zQ s x t ho base e i z size bytes ht hi hz hsize hby hzs hsz v xs hs hown sa sn sc ys hx src hf h1 h63 hbytes hbase fun v' w' q1 q2=>hK _ _ (h v' w' q1 q2)
theorem aBr {α:Type}{f:α->List Value}{ops:Array Oper}{ac:Act}{K:Act->World->Prop}{Q:Exit->Act->World->Prop}{E:Prop}{W:qw}(hgd:o.guard=none)(s x:Operand)(t:TypeId)
 (ho:o.op=.call { callee:=.builtin .append,args:=#[s,x],argTypes:=#[t,t] })
 (base:Nat) (e:TypeId) (i:TypeInfo) (z:Value) (size bytes:Nat) (ht:prog.underlying t=some (.slice e)) (hi:prog.info? e=some i) (hz:i.zero=some z)
 (hsize:i.size=size) (hby:i.bytes=bytes) (hzs:z.cells.size=size) (hsz:0<size)
 (v:Value) (xs:List α) (hs:ac.eval s=v) (hown:OG e size f W base v xs)
 (sa:qO) (sn sc:Nat) (ys:List α) (hx:ac.eval x=qS sa sn sc) (src:Srd f W sa sn sc ys) (hf:∀ y,(f y).length=size) (h1:∀ y,∀ u∈f y,u.oneCell'=true)
 (h63:xs.length+ys.length<=maxLen) (hbytes:(xs.length+ys.length)*bytes<=140737488355328) (hbase:base<=W.heap.size)
 (h:∀ v' w',OG e size f w' base v' (xs++ys)->W.grownBy w' v.ownBlock->K (ac.put o.dst v') w'):
 if Region.wanted o (yielded ops ac.tmps)=true then Oper.wp prog o ac W K Q else E:=by
 have hw:Region.wanted o (yielded ops ac.tmps)=true:=by simp [Region.wanted,hgd]
 rw [if_pos hw];exact zQ s x t ho base e i z size bytes ht hi hz hsize hby hzs hsz v xs hs hown sa sn sc ys hx src hf h1 h63 hbytes hbase h
theorem iE (a a':Option Addr)(n cap n' cap':Nat)(xs ys:List Int)(w:World)(h:IS w a n cap xs)(h':IS w a' n' cap' ys):
 Calls prog 28 #[.slice a n cap,.slice a' n' cap'] w fun e w'=>e=.returned (.bool (decide (xs=ys)))/\Below w.heap.size w w':=by
 obtain ⟨hl,hmx,hr,hc,_⟩:=h;obtain ⟨hl',hmx',hr',hc',_⟩:=h';unfold maxLen at hmx hmx';by_cases hn:n=n'
 .subst hn;have hne:((n:Int) !=(n:Int))=false:=by simp
  by_cases hn0:n=0
  .subst hn0;obtain rfl:xs=[]:=List.eq_nil_of_length_eq_zero hl;obtain rfl:ys=[]:=List.eq_nil_of_length_eq_zero hl';clear hc hc';go_enter func28,ntmps28
   go_wp2;go_loop [5] (fun i=>i=.int .i64 0) (fun _=>0)
   case atStart=>rfl
   case round=>
    obtain rfl:=hrel;go_wp2;go_ret;exact ⟨rfl,Below.refl _ _⟩
  .obtain ⟨b,off,rfl,hd⟩:=hc hn0;obtain ⟨b',off',rfl,hd'⟩:=hc' hn0;clear hc hc';go_enter func28,ntmps28
   go_wp2;go_loopw [5] (fun i wr=>∃ k:Nat,k<=n/\i=.int .i64 k/\xs.take k=ys.take k/\Below w.heap.size w wr) (fun i _=>n-(intOf i).toNat)
   case atStart=>exact ⟨0,Nat.zero_le _,rfl,by simp,Below.refl _ _⟩
   case round=>
    obtain ⟨k,hk,rfl,hT,hB⟩:=hrel;by_cases hlt:k<n
    .have hlt':(k:Int)<(n:Int):=by omega
     have hck:wr.cell? ⟨b,off+k,none⟩=some (.int .i64 (xs.getD k 0)):=(hB.cell (World.block_lt_of_cell? w _ (hd k hlt))).trans (hd k hlt);have hck':wr.cell? ⟨b',off'+k,none⟩=some (.int .i64 (ys.getD k 0)):=(hB.cell (World.block_lt_of_cell? w _ (hd' k hlt))).trans (hd' k hlt);by_cases he:xs.getD k 0=ys.getD k 0
     .have hS:=gJ xs ys k hT (by omega) (by omega) he;have HS:Hid (xs.take (k+1)=ys.take (k+1)):=hS;rw [he] at hck;clear hS hT hd hd' he;generalize ys.getD k 0=z at *;have hz:(z !=z)=false:=by simp
      go_wp2
      go_quiet (fail)
      go_wp2
      go_roundw
      case rel=>exact ⟨k+1,by omega,by go_num,HS.out,below_drewN hB _⟩
      case measure=>simp [intOf];omega
     .have hf:Hid (decide (xs=ys)=false):=by
       show _=_;simp;intro e;exact he (by rw [e])
      have hz:(xs.getD k 0 !=ys.getD k 0)=true:=by simpa using he
      clear hT hd hd' he;generalize ys.getD k 0=z at *;generalize xs.getD k 0=z' at *;go_wp2
      go_quiet (fail)
      go_wp2;go_ret;exact ⟨aB hf.out.symm,below_drewN hB _⟩
    .have hf:Hid (decide (xs=ys)=true):=by
      show _=_;simp;rw [List.take_of_length_le (by omega),List.take_of_length_le (by omega)] at hT;exact hT
     clear hT hd hd';go_wp2;go_ret;exact ⟨aB hf.out.symm,hB⟩
 .have hf:Hid (decide (xs=ys)=false):=by
   show _=_;simp;intro e;rw [e] at hl;omega
  have hne:((n:Int) !=(n':Int))=true:=by simp;omega
  clear hc hc';go_enter func28,ntmps28
  go_wp2;go_ret;exact ⟨aB hf.out.symm,Below.refl _ _⟩
theorem tR (xs ys:qi)(k:Nat)(h:xs.take k=ys.take k)(hx:k<xs.length)(hy:k<ys.length)(he:xs.getD k 0=ys.getD k 0):xs.take (k+1)=ys.take (k+1):=by
 rw [List.take_succ_eq_append_getElem hx,List.take_succ_eq_append_getElem hy,h];simp [xB,hx,hy] at he;rw [he]
theorem gF (a a':qO)(n cap n' cap':Nat)(xs ys:qi)(w:qw)(h:BS w a n cap xs)(h':BS w a' n' cap' ys):
 qC 64 #[qS a n cap,qS a' n' cap'] w (qB w (.bool (decide (xs=ys)))):=by
 obtain ⟨hl,hmx,hr,hc,_⟩:=h;obtain ⟨hl',hmx',hr',hc',_⟩:=h';unfold maxLen at hmx hmx';by_cases hn:n=n'
 .subst hn;have hne:((n:Int) !=(n:Int))=false:=by simp
  by_cases hn0:n=0
  .subst hn0;obtain rfl:xs=[]:=xE hl;obtain rfl:ys=[]:=xE hl';clear hc hc';go_enter func64,ntmps64
   go_wp2;go_loop [5] (fun i=>i=qI 0) (fun _=>0)
   .rfl
   .obtain rfl:=hrel;go_wp2;go_ret;exact ⟨rfl,brf⟩
  .obtain ⟨b,off,rfl,hd⟩:=hc hn0;obtain ⟨b',off',rfl,hd'⟩:=hc' hn0;clear hc hc';go_enter func64,ntmps64
   go_wp2;go_loopw [5] (fun i wr=>∃ k:Nat,k<=n/\i=qI k/\xs.take k=ys.take k/\qY w wr) (qf n)
   .exact ⟨0,xC _,rfl,by simp,brf⟩
   .obtain ⟨k,hk,rfl,hT,hB⟩:=hrel;by_cases hlt:k<n
    .have hlt':(k:Int)<(n:Int):=by omega
     have hck:wr.cell? (qR b (off+k))=some (.int .u8 (xs.getD k 0)):=(hB.cell (xD w _ (hd k hlt))).trans (hd k hlt);have hck':wr.cell? (qR b' (off'+k))=some (.int .u8 (ys.getD k 0)):=(hB.cell (xD w _ (hd' k hlt))).trans (hd' k hlt);by_cases he:xs.getD k 0=ys.getD k 0
     .have hS:=tR xs ys k hT (by omega) (by omega) he;have HS:Zh (xs.take (k+1)=ys.take (k+1)):=hS;rw [he] at hck;clear hS hT hd hd' he;generalize ys.getD k 0=z at *;have hz:(z !=z)=false:=by simp
      go_wp2
      go_quiet (fail)
      go_wp2
      go_roundw
      .exact ⟨k+1,by omega,by go_num,HS.o,below_drewN hB _⟩
      .simp [qf,intOf];omega
     .have hf:Zh (decide (xs=ys)=false):=by
       show _=_;simp;intro e;exact he (by rw [e])
      have hz:(xs.getD k 0 !=ys.getD k 0)=true:=by simpa using he
      clear hT hd hd' he;generalize ys.getD k 0=z at *;generalize xs.getD k 0=z' at *;go_wp2
      go_quiet (fail)
      go_wp2;go_ret;exact ⟨aB hf.o.symm,below_drewN hB _⟩
    .have hf:Zh (decide (xs=ys)=true):=by
      show _=_;simp;rw [xG (by omega),xG (by omega)] at hT;exact hT
     clear hT hd hd';go_wp2;go_ret;exact ⟨aB hf.o.symm,hB⟩
 .have hf:Zh (decide (xs=ys)=false):=by
   show _=_;simp;intro e;rw [e] at hl;omega
  have hne:((n:Int) !=(n':Int))=true:=by simp;omega
  clear hc hc';go_enter func64,ntmps64
  go_wp2;go_ret;exact ⟨aB hf.o.symm,brf⟩
def slF (L:Lay)(b:Int):List Int:=if b=-1\/L.slots=[] then [-1] else (List.range L.slots.length).map (fun i:Nat=>(i:Int))
theorem aHr {w:qw}{g:Nat}{v:Int}(hv:wfi v)(h:w.cell? (qR g 0)=some (qI v)):IS w (qP g) 1 1 [v]:=by
 refine ⟨rfl,by unfold maxLen;omega,fun z hz=>?_,fun _=>⟨g,0,rfl,fun i hi=>?_⟩,aL⟩
 .simp at hz;rw [hz];exact hv
 .obtain rfl:i=0:=by omega
  simpa using h
theorem vS (L:Lay)(a0:qO)(c0:Nat)(xs:List PB)(a2:qO)(c2:Nat)(a5:qO)(c5:Nat)(ts:List TB)(b:Int)(w:qw)(h:LyT w L a0 c0 xs a2 c2 a5 c5 ts)(hb:b=-1\/L.slots=[]):
 qC 56 #[.agg (qL L a0 xs.length c0 a2 L.slots.length c2 a5 ts.length c5),qI b] w fun e w'=>∃ a c,e=.returned (.slice a (slF L b).length c)/\IS w' a (slF L b).length c (slF L b)/\qY w w':=by
 have HS:=zh (show slF L b=[-1] by unfold slF;rw [if_pos hb]);rw [HS.o];show qC 56 _ w fun e w'=>∃ a c,e=.returned (qS a 1 c)/\IS w' a 1 c [-1]/\qY w w';have HB:Zh (qY w (w.alloc (.cells (qL L a0 xs.length c0 a2 L.slots.length c2 a5 ts.length c5) 64))):=brf.alloc aL _;clear HS;by_cases c:b=-1
 .subst c;clear hb h;generalize xs.length=n at *;generalize L.slots.length=l at *;generalize ts.length=k at *;go_enter func56,ntmps56
  go_wp2;go_ret;refine ⟨_,_,rfl,aHr (by unfold wfi;omega) ?_,HB.o.alloc HB.o.size _⟩;rw [show w.heap.size+1=(w.alloc _).heap.size from (xF _ _).symm];exact (Blk.new _ _ _).cell 0
 .have hl:L.slots.length=0:=by rw [hb.resolve_left c];rfl
  have hz:(b == -1)=false:=by simpa using c
  rw [hl];rw [hl] at HB;clear hb h hl;generalize xs.length=n at *;generalize ts.length=k at *;go_enter func56,ntmps56
  go_wp2;go_ret;refine ⟨_,_,rfl,aHr (by unfold wfi;omega) ?_,HB.o.alloc HB.o.size _⟩;rw [show w.heap.size+1=(w.alloc _).heap.size from (xF _ _).symm];exact (Blk.new _ _ _).cell 0
def upN (n:Nat):List Int:=(List.range n).map (fun i:Nat=>(i:Int))
theorem jP (n:Nat):(upN n).length=n:=by simp [upN]
theorem aLs (n k:Nat)(h:k<n):(upN n).getD k 0=(k:Int):=by simp [upN,xB,h]
theorem tT (L:Lay)(a0:qO)(c0:Nat)(xs:List PB)(a2:qO)(c2:Nat)(a5:qO)(c5:Nat)(ts:List TB)(b:Int)(l:Nat)(w:qw)(hb:¬ b=-1)(h0:¬ l=0)(h1:l<=1048576):
 qC 56 #[.agg (qL L a0 xs.length c0 a2 l c2 a5 ts.length c5),qI b] w fun e w'=>∃ g,e=.returned (qS (qP g) l l)/\RowI w' g (upN l)/\qY w w':=by
 obtain ⟨i0,hi,hz0,hz1,hz2⟩:=info_parts gG;have hz:(b == -1)=false:=by simpa using hb
 have hl0:((l:Int)==0)=false:=by simpa using h0
 obtain ⟨W,hW⟩:=eqx (w.alloc (.cells (qL L a0 xs.length c0 a2 l c2 a5 ts.length c5) 64));have HBW:=zh (show qY w W by rw [hW];exact bal);have k0:Blk W w.heap.size (qL L a0 xs.length c0 a2 l c2 a5 ts.length c5) 64:=by rw [hW];exact Blk.new w _ _
 have d2:=k0.e2;have HW:=zh hW;clear hW k0;generalize xs.length=n at *;generalize ts.length=k at *;go_enter func56,ntmps56
 go_wp2_with (first|rw [<- HW.o]|(at_make;refine wpList_make_full _ rfl _ _ 29 rfl W.heap.size 3 i0 (qI 0) 1 underlying29 hi hz0 hz1 .i64 .i64 _ _ l rfl rfl rfl rfl (by rw [hz2];omega) (by unfold maxLen;omega) aL ?_;intro w1 hown hgr))
 have hrow:=vZ hown;have hbel:=jN hgr;clear hown hgr hi hz0 hz1 hz2 d2;go_loopw [6,22] (fun _ i wr=>∃ k:Nat,k<=l/\i=qI k/\RowI wr W.heap.size (mid (upN l) k)/\qY W wr) (fun _ i _=>l-(intOf i).toNat)
 .exact ⟨0,xC _,rfl,by rw [aG1,jP];exact hrow,hbel⟩
 .obtain ⟨k,hk,rfl,hR,hB⟩:=hrel;clear hrow hbel;by_cases hlt:k<l
  .have hlt':(k:Int)<(l:Int):=by omega
   have hgk:wr.cell? (qR W.heap.size k)=some (qI ((mid (upN l) k).getD k 0)):=hR.cell k (by rw [aJ1,jP];omega);have hfk:wr.frozen? (qR W.heap.size k)=false:=hR.frozen k;have R':=hR.set k ((upN l).getD k 0);rw [aJ0 (upN l) k (by rw [jP];omega),aLs l k hlt] at R';have B':qY W (wr.setCell (qR W.heap.size k) (qI (k:Int))):=hB.setCell aL _;have HR:=zh R';have HB:=zh B';generalize (mid (upN l) k).getD k 0=z0 at *;clear hR hB R' B';go_wp2
   go_roundw
   .exact ⟨k+1,by omega,by go_num,HR.o,HB.o⟩
   .simp [intOf];omega
  .have e:Zh (k=l):=by show k=l;omega
   have HX:=zh (xA hR hB);clear hR hB;go_wp2;go_ret;refine ⟨_,rfl,?_,HBW.o.trans (HX.o.2.mono HBW.o.size)⟩;have:=HX.o.1;have e2:mid (upN l) l=upN l:=by have:=aJ2 (upN l);rwa [jP] at this
   rw [e.o,e2] at this;exact this
