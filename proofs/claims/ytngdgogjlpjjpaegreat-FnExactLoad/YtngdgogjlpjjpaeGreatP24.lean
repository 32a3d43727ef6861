import Derived.Test.YtngdgogjlpjjpaeGreatP02
import Derived.Test.YtngdgogjlpjjpaeGreatP09
import Derived.Test.YtngdgogjlpjjpaeGreatP11
import Derived.Test.YtngdgogjlpjjpaeGreatP15
import Derived.Test.YtngdgogjlpjjpaeGreatP13
import Derived.Test.YtngdgogjlpjjpaeGreatP16
import Derived.Test.YtngdgogjlpjjpaeGreatP17
import Derived.Test.YtngdgogjlpjjpaeGreatP18
import Derived.Test.YtngdgogjlpjjpaeGreatP19
import Derived.Test.YtngdgogjlpjjpaeGreatP23
import Derived.Test.YtngdgogjlpjjpaeGreatP20
set_option maxHeartbeats 40000000
namespace Go.Proofs.YtngdgogjlpjjpaeGreat
open Go.RowKit Classical
set_option linter.unusedVariables false
set_option linter.unusedSimpArgs false
set_option maxRecDepth 100000
theorem sParse_good (b n cap:Nat)(zs:List Int)(w:World)(h:BS w (some ⟨b,0,none⟩) n cap zs)(hn:n≤20000)(hb:b<w.heap.size)(h2:2≤n)(x0:zs.getD 0 0=88)(x1:zs.getD 1 0=77):
 Calls Tryz.prog 67 #[.slice (some ⟨b,0,none⟩) n cap] w (PaPost w (prs2 zs)):=by
 have hl:=h.1
 have hby:Byt zs:=h.2.2.1
 have HBY:=hide hby
 obtain ⟨W0,hW0⟩:∃ W0,W0=(w.alloc (.cells #[.string ⟨#[]⟩,.slice none 0 0,.slice none 0 0,.slice none 0 0,.int .i64 0,.slice none 0 0,.slice none 0 0,.slice none 0 0] 104)).alloc (.cells #[.string ⟨#[]⟩,.slice none 0 0,.slice none 0 0,.slice none 0 0,.int .i64 0,.slice none 0 0,.slice none 0 0,.slice none 0 0] 104):=⟨_,rfl⟩
 have F0:Below w.heap.size w W0∧Blk W0 w.heap.size z8 104∧Blk W0 (w.heap.size+1) z8 104:=by
  subst hW0
  have b1:Below w.heap.size w (w.alloc (.cells #[.string ⟨#[]⟩,.slice none 0 0,.slice none 0 0,.slice none 0 0,.int .i64 0,.slice none 0 0,.slice none 0 0,.slice none 0 0] 104)):=(Below.refl _ _).alloc (Nat.le_refl _) _
  have k1:=Blk.new w #[.string ⟨#[]⟩,.slice none 0 0,.slice none 0 0,.slice none 0 0,.int .i64 0,.slice none 0 0,.slice none 0 0,.slice none 0 0] 104
  have hs1:(w.alloc (.cells #[.string ⟨#[]⟩,.slice none 0 0,.slice none 0 0,.slice none 0 0,.int .i64 0,.slice none 0 0,.slice none 0 0,.slice none 0 0] 104)).heap.size=w.heap.size+1:=by simp
  generalize w.alloc (.cells #[.string ⟨#[]⟩,.slice none 0 0,.slice none 0 0,.slice none 0 0,.int .i64 0,.slice none 0 0,.slice none 0 0,.slice none 0 0] 104)=W1 at *
  have b2:Below W1.heap.size W1 (W1.alloc (.cells #[.string ⟨#[]⟩,.slice none 0 0,.slice none 0 0,.slice none 0 0,.int .i64 0,.slice none 0 0,.slice none 0 0,.slice none 0 0] 104)):=(Below.refl _ _).alloc (Nat.le_refl _) _
  have k2:=Blk.new W1 #[.string ⟨#[]⟩,.slice none 0 0,.slice none 0 0,.slice none 0 0,.int .i64 0,.slice none 0 0,.slice none 0 0,.slice none 0 0] 104
  rw [hs1] at k2
  exact ⟨b1.trans (b2.mono (by omega)),k1.below b2,k2⟩
 obtain ⟨B0,K0,K1⟩:=F0
 have hs0:W0.heap.size=w.heap.size+2:=by rw [hW0];simp
 have S0:=ss_new h (by omega) hb h2 B0 K0 K1 hs0
 have b0:=(h.below B0).at 0 (by omega)
 have b1:=(h.below B0).at 1 (by omega)
 rw [x0] at b0
 rw [x1] at b1
 have m0:(0:Int)<(n:Int):=by omega
 have m1:(1:Int)<(n:Int):=by omega
 have c1':¬ (20000:Int)<(n:Int):=by omega
 have c2':¬ (n:Int)<2:=by omega
 rw [hW0] at S0 b0 b1
 have HS0:=hide S0
 clear B0 K0 K1 h hby S0 hs0 hW0 x0 x1
 go_enter Tryz.func67,Tryz.ntmps67
 go_wp2_with fail
 refine HS0.out.text.mono ?_
 rintro e w1 ⟨nm,s1,rfl,L1,E,T1⟩
 clear HS0 T1 b0 b1
 have q:w1.cell? ⟨w.heap.size+3,0,none⟩=some (.string ⟨#[]⟩):=E.k2.cell 0
 have f:=E.k2.frozen 0
 have HLt:=hide L1
 have E1:Ss w (w1.setCell ⟨w.heap.size+3,0,none⟩ (.string nm)) b n cap zs s1 #[.string nm,.slice none 0 0,.slice none 0 0,.slice none 0 0,.int .i64 0,.slice none 0 0,.slice none 0 0,.slice none 0 0]:=E.set 0 (.string nm)
 clear E L1
 go_wp2_with fail
 refine E1.words.mono ?_
 rintro e w2 ⟨tz,s2,a1,d1,rfl,o1,L2,E,T2⟩
 have o1:=o1.mono E1.sz
 have HLw:=hide L2
 clear E1 T2 q f L2
 have q:w2.cell? ⟨w.heap.size+3,1,none⟩=some (.slice none 0 0):=E.k2.cell 1
 have f:=E.k2.frozen 1
 have E1:Ss w (w2.setCell ⟨w.heap.size+3,1,none⟩ (.slice a1 tz.length d1)) b n cap zs s2 #[.string nm,.slice a1 tz.length d1,.slice none 0 0,.slice none 0 0,.int .i64 0,.slice none 0 0,.slice none 0 0,.slice none 0 0]:=E.set 1 (.slice a1 tz.length d1)
 have HA:=hide (sts_og (Nat.le_refl _) _ _ (Sg.b (w:=w) (W:=w2) 1 (.slice a1 tz.length d1)) o1)
 have HST:Hid (StS w (fun W=>OG 3 1 clI W (w.heap.size+4) (.slice a1 tz.length d1) tz)):=hide (sts_og (Nat.le_refl _))
 clear E o1
 go_wp2_with fail
 refine (E1.num 1 (Or.inl rfl)).mono ?_
 rintro e w3 ⟨m3,s3,rfl,hl3,hm3,L,En,T⟩
 have hm3:=hm3 rfl
 have HL3n:=hide L
 have HA2:=hide (HST.out _ _ T HA.out)
 clear HA L T E1
 have HA:=HA2
 have E:=En
 clear HA2 En
 clear q f
 have HT1:=hide (show ∀ k,(Value.slice a1 tz.length d1).ownBlock=some k→k<w3.heap.size from fun k hk=>(HA.out.lt k hk).2)
 obtain ⟨iI7,hi7,hz07,hz17,hz27⟩:=info_parts infoB
 have hsz7:=E.sz
 go_wp2_with fail
 go_loopw [7] (fun i wr=>∃ (k:Nat) (xs:List Bk) (s':Option (List Int)) (a:Option Addr) (c:Nat),k≤m3∧i=.int .i64 ((m3 - k:Nat):Int)∧xs.length=k∧OBk wr w3.heap.size (.slice a k c) xs∧Ss w wr b n cap zs s' #[.string nm,.slice a1 tz.length d1,.slice a k c,.slice none 0 0,.int .i64 0,.slice none 0 0,.slice none 0 0,.slice none 0 0]∧Turn (Sg w) w3 wr∧Lm pL m3 k s3 (xs.map fun B=>B.2.2.2) s') (fun i _=>(intOf i).toNat)
 case atStart=>exact ⟨0,[],s3,none,0,Nat.zero_le _,rfl,rfl,obk_nil _ _,E,Turn.refl _ _,lm_zero _ _ _⟩
 case round=>
  obtain ⟨k7,x7,r7,a7,c7,hk7,rfl,hx7,O,S,T,L⟩:=hrel
  generalize wr=wr7 at *
  clear E
  have q2:=S.short
  by_cases hlt7:k7<m3
  ·have hlt':(0:Int)<((m3 - k7:Nat):Int):=by omega
   cases r7 with
   | none=>
     simp at q2
     have HP:=hide (prs2_none (lf_mod HLt.out HLw.out HL3n.out (L.done (.inr rfl) hk7) (lf_dead (pN 2) 0) (lf_dead (pB 0) []) (lf_dead (pN 2) 0) (lf_dead (pN 1) 0) (lf_dead (pM (pN 2) 0) []) (lf_dead (pN 1) 0) (lf_dead (pM pT 0) []) (lf_dead (pN 1) 0) (lf_dead (pM pX 0) [])))
     clear O T L HA HST HLt HLw HL3n
     go_wp2_with fail
     refine (S.num0 2 (Or.inr rfl)).mono ?_
     rintro e t1 ⟨rfl,S1⟩
     clear S
     go_wp2_with fail
     refine S1.bytes0.mono ?_
     rintro e u1 ⟨av1,cv1,rfl,R1⟩
     clear S1
     have q1:u1.cell? ⟨w.heap.size+3,3,none⟩=some (.slice none 0 0):=R1.k2.cell 3
     have f1:=R1.k2.frozen 3
     have U1:Ss w (u1.setCell ⟨w.heap.size+3,3,none⟩ (.slice av1 0 cv1)) b n cap zs none #[.string nm,.slice a1 tz.length d1,.slice a7 k7 c7,.slice av1 0 cv1,.int .i64 0,.slice none 0 0,.slice none 0 0,.slice none 0 0]:=R1.set 3 (.slice av1 0 cv1)
     clear R1
     go_wp2_with fail
     refine (U1.num0 2 (Or.inr rfl)).mono ?_
     rintro e t2 ⟨rfl,S2⟩
     clear U1 q1 f1
     have q2:t2.cell? ⟨w.heap.size+3,4,none⟩=some (.int .i64 0):=S2.k2.cell 4
     have f2:=S2.k2.frozen 4
     have U2:Ss w (t2.setCell ⟨w.heap.size+3,4,none⟩ (.int .i64 0)) b n cap zs none #[.string nm,.slice a1 tz.length d1,.slice a7 k7 c7,.slice av1 0 cv1,.int .i64 0,.slice none 0 0,.slice none 0 0,.slice none 0 0]:=S2.set 4 (.int .i64 0)
     clear S2
     go_wp2_with fail
     refine (U2.num0 1 (Or.inl rfl)).mono ?_
     rintro e t3 ⟨rfl,S3⟩
     clear U2
     go_wp2_with fail
     go_loopw [8] (fun i wr=>i=.int .i64 0∧Ss w wr b n cap zs none #[.string nm,.slice a1 tz.length d1,.slice a7 k7 c7,.slice av1 0 cv1,.int .i64 0,.slice none 0 0,.slice none 0 0,.slice none 0 0]) (fun _ _=>0)
     case atStart=>exact ⟨rfl,S3⟩
     case round=>
      obtain ⟨rfl,U3⟩:=hrel
      clear S3
      go_wp2_with fail
      refine (U3.num0 1 (Or.inl rfl)).mono ?_
      rintro e t4 ⟨rfl,S4⟩
      clear U3
      go_wp2_with fail
      go_loopw [9] (fun i wr=>i=.int .i64 0∧Ss w wr b n cap zs none #[.string nm,.slice a1 tz.length d1,.slice a7 k7 c7,.slice av1 0 cv1,.int .i64 0,.slice none 0 0,.slice none 0 0,.slice none 0 0]) (fun _ _=>0)
      case atStart=>exact ⟨rfl,S4⟩
      case round=>
       obtain ⟨rfl,U4⟩:=hrel
       clear S4
       go_wp2_with fail
       refine (U4.num0 1 (Or.inl rfl)).mono ?_
       rintro e t5 ⟨rfl,S5⟩
       clear U4
       go_wp2_with fail
       go_loopw [10] (fun i wr=>i=.int .i64 0∧Ss w wr b n cap zs none #[.string nm,.slice a1 tz.length d1,.slice a7 k7 c7,.slice av1 0 cv1,.int .i64 0,.slice none 0 0,.slice none 0 0,.slice none 0 0]) (fun _ _=>0)
       case atStart=>exact ⟨rfl,S5⟩
       case round=>
        obtain ⟨rfl,U5⟩:=hrel
        clear S5
        have qs:=U5.short
        simp at qs
        obtain ⟨u0,u1,u2,u3,u4,u5,u6,u7⟩:=z8_cells U5.k1
        obtain ⟨p0,p1,p2,p3,p4,p5,p6,p7⟩:=z8_cells U5.k0
        obtain ⟨y0,y1,y2,y3,y4,y5,y6,y7⟩:=z8_frozen U5.k0
        have HE:=hide U5
        clear U5
        go_wp2
        exact none_end HE.out.be HE.out.k0 2 _ HP.out _ rfl rfl
   | some r=>
     simp at q2
     obtain ⟨p2,f2⟩:=S.two 2 (.slice a7 k7 c7) rfl
     have HO:=hide (And.intro O (And.intro S (And.intro T L)))
     have hszw:=S.sz
     have hsz3:=T.size
     have HLO:=hide (show ∀ B ∈ x7,∀ j,(Value.slice B.1 B.2.1 B.2.2.1).ownBlock=some j→j<wr7.heap.size from fun B hB j hj=>((O.rows B hB).2.lt j hj).2)
     have HBL:=hide hx7
     clear O S T L hx7
     go_wp2_with fail
     go_region_law (first
      | (refine step_append_lies _ rfl _ _ 93 rfl w3.heap.size 24 iI7 (.slice none 0 0) 1 24 Tryz.underlying93 hi7 hz07 hz17 hz27 rfl (by decide) (.slice a7 k7 c7) k7 (x7.map fun B=>Value.slice B.1 B.2.1 B.2.2.1) rfl HOW.out ⟨wa.heap.size,0,none⟩ 1 1 [.slice A x.length C] rfl rfl (cells_new wa _ _ [.slice A x.length C] rfl) (by intro u hu;simp [clI,clT] at hu;subst hu;rfl) (by decide) (by unfold maxLen;omega) (by omega) (by simp;omega) _ rfl ?_;intro g4 c4 w4 hown hgr hat hlt4;obtain ⟨p4,f4⟩:=(SAL.out.grown hgr (fun j hj=>(OAL.out.lt j hj).1) (by omega)).two 2 (.slice a7 k7 c7) rfl)
      | (go_simp;go_at_call 151;refine (Ss.words (w:=w) (b:=b) (n:=n) (cap:=cap) (zs:=zs) (st:=some r) (cs:=#[.string nm,.slice a1 tz.length d1,.slice a7 k7 c7,.slice none 0 0,.int .i64 0,.slice none 0 0,.slice none 0 0,.slice none 0 0]) (by first | exact HO.out.2.1 | exact HO.out.2.1.drew)).mono ?_;rintro e wa ⟨x,s4,A,C,rfl,ox,La,SA,Ta⟩;have Ta':Turn (Sg w) wr7 wa:=⟨Ta.os,Ta.tape,Ta.output,Ta.size,Ta.block⟩;have al:Below wa.heap.size wa (wa.alloc (.cells #[.slice A x.length C] 24)):=(Below.refl _ _).alloc (Nat.le_refl _) _;obtain ⟨pa,fa⟩:=SA.two 2 (.slice a7 k7 c7) rfl;have hsa:=SA.sz;have hsa3:=Ta'.size;have OAL:=hide ((HO.out.1.turn Ta' (fun j hj=>by unfold Sg at hj;omega)).turn (S:=fun _=>False) (turn_below al) (fun j hj=>absurd hj id));have SAL:=hide (SA.below al);obtain ⟨pb,fb⟩:=SAL.out.two 2 (.slice a7 k7 c7) rfl;have HOW:=hide (show (wa.alloc (.cells #[.slice A x.length C] 24)).ownsRow w3.heap.size 24 1 (.slice a7 k7 c7) k7 (x7.map fun B=>Value.slice B.1 B.2.1 B.2.2.1) by have:=OAL.out.head;rw [HBL.out] at this;exact this);have HX:=hide (And.intro (ox.below al) (And.intro Ta' La));clear ox Ta Ta' La al SA))
     all_goals
      obtain ⟨O,S,T,L⟩:=HO.out
      obtain ⟨ox,Ta,La⟩:=HX.out
      have hrow:∀ j,(Value.slice a7 k7 c7).ownBlock=some j→w3.heap.size≤j:=fun j hj=>(OAL.out.lt j hj).1
      have O5:=(OAL.out.push HBL.out ox (by exact hsz3) HLO.out hown hgr).turn (turn_set w4 (w.heap.size+3) 2 (.slice (some ⟨g4,0,none⟩) (k7+1) c4)) (fun j hj=>by omega)
      have S5:Ss w (w4.setCell ⟨w.heap.size+3,2,none⟩ (.slice (some ⟨g4,0,none⟩) (k7+1) c4)) b n cap zs s4 #[.string nm,.slice a1 tz.length d1,.slice (some ⟨g4,0,none⟩) (k7+1) c4,.slice none 0 0,.int .i64 0,.slice none 0 0,.slice none 0 0,.slice none 0 0]:=(SAL.out.grown hgr hrow (by omega)).set 2 (.slice (some ⟨g4,0,none⟩) (k7+1) c4)
      have T5:Turn (Sg w) w3 (w4.setCell ⟨w.heap.size+3,2,none⟩ (.slice (some ⟨g4,0,none⟩) (k7+1) c4)):=(turn_grown ((T.trans Ta).trans (turn_alloc _ _)) hgr hrow).trans (Sg.b 2 (.slice (some ⟨g4,0,none⟩) (k7+1) c4))
      have L5:=L.step hlt7 La
      have HF:=hide (And.intro O5 (And.intro S5 (And.intro T5 L5)))
      have HLE:=hide (show (x7++[((A,x.length,C,x):Bk)]).length=k7+1 by rw [List.length_append,HBL.out];rfl)
      have HMA:=hide (show (x7++[((A,x.length,C,x):Bk)]).map (fun B=>B.2.2.2)=x7.map (fun B=>B.2.2.2)++[x] by simp)
      have HDEC:=hide (show ((m3 - k7:Nat):Int) - 1=((m3 - (k7+1):Nat):Int) by omega)
      clear O S T L ox Ta La hrow O5 S5 T5 L5 HO HX OAL SAL HOW hown hgr hat hlt4 p4 f4 pa fa pb fb
      go_wp2
      go_roundw
      case rel=>exact ⟨k7+1,x7++[((A,x.length,C,x):Bk)],s4,some ⟨g4,0,none⟩,c4,by omega,by rw [← HDEC.out],HLE.out,HF.out.1,HF.out.2.1,HF.out.2.2.1,by rw [HMA.out];exact HF.out.2.2.2⟩
      case measure=>simp [intOf];omega
  ·have hlt':¬ (0:Int)<((m3 - k7:Nat):Int):=by omega
   have hkm7:k7=m3:=by omega
   have HL7:=hide (L.done (.inl hkm7) hk7)
   have HX7:=hide hx7
   have HA2:=hide (HST.out _ _ T HA.out)
   have HB:=hide O
   have HT:=hide T.size
   have E:=S
   clear HA L T O S hx7 hkm7
   have HA:=HA2
   clear HA2
   have HSB:=hide (show ∀ B ∈ x7,∀ j,(Value.slice B.1 B.2.1 B.2.2.1).ownBlock=some j→w3.heap.size≤j from fun B hB j hj=>((HB.out.rows B hB).2.lt j hj).1)
   have HAn:=hide (And.intro HA.out (HB.out.mono hsz7))
   have HSTn:=hide (HST.out.and (sts_obk (w:=w) (v:=.slice a7 k7 c7) (bl:=x7) (Nat.le_refl _)))
   clear HA HST HB
   have HA:=HAn
   have HST:=HSTn
   clear HAn HSTn q2
   go_wp2_with fail
   refine (E.num 2 (Or.inr rfl)).mono ?_
   rintro e w4 ⟨m4,s4,rfl,hl4,hm4,L,En,T⟩
   clear hm4
   have HL4n:=hide L
   have HA2:=hide (HST.out _ _ T HA.out)
   clear HA L T E
   have HA:=HA2
   have E:=En
   clear HA2 En
   go_wp2_with fail
   refine (E.bytes m4 hl4).mono ?_
   rintro e w5 ⟨dz,s5,a3,d3,rfl,o3,L,E1,T⟩
   have o3:=hide (show OB w5 (w.heap.size+4) (.slice a3 dz.length d3) dz from OB.mono o3 E.sz)
   have HLb:=hide L
   have HA2:=hide (HST.out _ _ T HA.out)
   clear HA L T E
   have HA:=HA2
   clear HA2
   have q:w5.cell? ⟨w.heap.size+3,3,none⟩=some (.slice none 0 0):=E1.k2.cell 3
   have f:=E1.k2.frozen 3
   have E:Ss w (w5.setCell ⟨w.heap.size+3,3,none⟩ (.slice a3 dz.length d3)) b n cap zs s5 #[.string nm,.slice a1 tz.length d1,.slice a7 k7 c7,.slice a3 dz.length d3,.int .i64 0,.slice none 0 0,.slice none 0 0,.slice none 0 0]:=E1.set 3 (.slice a3 dz.length d3)
   have HSTn:=hide (HST.out.and (sts_ob (w:=w) (v:=.slice a3 dz.length d3) (zs:=dz) (Nat.le_refl _)))
   have HAn:=hide (HSTn.out _ _ (Sg.b (w:=w) (W:=w5) 3 (.slice a3 dz.length d3)) (And.intro HA.out o3.out))
   clear E1 HA HST o3
   have HA:=HAn
   have HST:=HSTn
   clear HAn HSTn
   go_wp2_with fail
   refine (E.num 2 (Or.inr rfl)).mono ?_
   rintro e w6 ⟨m6,s6,rfl,hl6,hm6,L,En,T⟩
   clear hm6
   have HL6n:=hide L
   have HA2:=hide (HST.out _ _ T HA.out)
   clear HA L T E
   have HA:=HA2
   have E:=En
   clear HA2 En
   clear q f
   have q:w6.cell? ⟨w.heap.size+3,4,none⟩=some (.int .i64 0):=E.k2.cell 4
   have f:=E.k2.frozen 4
   have E1:Ss w (w6.setCell ⟨w.heap.size+3,4,none⟩ (.int .i64 (m6:Int))) b n cap zs s6 #[.string nm,.slice a1 tz.length d1,.slice a7 k7 c7,.slice a3 dz.length d3,.int .i64 (m6:Int),.slice none 0 0,.slice none 0 0,.slice none 0 0]:=E.set 4 (.int .i64 (m6:Int))
   have HA2:=hide (HST.out _ _ (Sg.b (w:=w) (W:=w6) 4 (.int .i64 (m6:Int))) HA.out)
   clear E HA
   have HA:=HA2
   clear HA2
   go_wp2_with fail
   refine (E1.num 1 (Or.inl rfl)).mono ?_
   rintro e w8 ⟨m8,s8,rfl,hl8,hm8,L,En,T⟩
   have hm8:=hm8 rfl
   have HL8n:=hide L
   have HA2:=hide (HST.out _ _ T HA.out)
   clear HA L T E1
   have HA:=HA2
   have E:=En
   clear HA2 En
   clear q f
   have HT8:=hide (show ∀ k,(Value.slice a1 tz.length d1).ownBlock=some k→k<w8.heap.size from fun k hk=>(HA.out.1.1.lt k hk).2)
   have HB8:=hide (show ∀ B ∈ x7,∀ j,(Value.slice B.1 B.2.1 B.2.2.1).ownBlock=some j→w3.heap.size≤j∧j<w8.heap.size from fun B hB j hj=>⟨(HSB.out B hB j hj),((HA.out.1.2.rows B hB).2.lt j hj).2⟩)
   clear HSB
   obtain ⟨iI8,hi8,hz08,hz18,hz28⟩:=info_parts infoI
   have hsz8:=E.sz
   go_wp2_with fail
   go_loopw [8] (fun i wr=>∃ (k:Nat) (xs:List Int) (s':Option (List Int)) (a:Option Addr) (c:Nat),k≤m8∧i=.int .i64 ((m8 - k:Nat):Int)∧xs.length=k∧OG 3 1 clI wr w8.heap.size (.slice a k c) xs∧Ss w wr b n cap zs s' #[.string nm,.slice a1 tz.length d1,.slice a7 k7 c7,.slice a3 dz.length d3,.int .i64 (m6:Int),.slice a k c,.slice none 0 0,.slice none 0 0]∧Turn (Sg w) w8 wr∧Lm (pN 2) m8 k s8 xs s') (fun i _=>(intOf i).toNat)
   case atStart=>exact ⟨0,[],s8,none,0,Nat.zero_le _,rfl,rfl,og_nil _ _ _ _ _,E,Turn.refl _ _,lm_zero _ _ _⟩
   case round=>
    obtain ⟨k8,x8,r8,a8,c8,hk8,rfl,hx8,O,S,T,L⟩:=hrel
    generalize wr=wr8 at *
    clear E
    have q2:=S.short
    by_cases hlt8:k8<m8
    ·have hlt':(0:Int)<((m8 - k8:Nat):Int):=by omega
     cases r8 with
     | none=>
       simp at q2
       have HP:=hide (prs2_none (lf_mod HLt.out HLw.out HL3n.out HL7.out HL4n.out HLb.out HL6n.out HL8n.out (L.done (.inr rfl) hk8) (lf_dead (pN 1) 0) (lf_dead (pM pT 0) []) (lf_dead (pN 1) 0) (lf_dead (pM pX 0) [])))
       clear O T L HA HST HLt HLw HL3n HL7 HL4n HLb HL6n HL8n
       go_wp2_with fail
       refine (S.num0 1 (Or.inl rfl)).mono ?_
       rintro e t1 ⟨rfl,S1⟩
       clear S
       go_wp2_with fail
       go_loopw [9] (fun i wr=>i=.int .i64 0∧Ss w wr b n cap zs none #[.string nm,.slice a1 tz.length d1,.slice a7 k7 c7,.slice a3 dz.length d3,.int .i64 (m6:Int),.slice a8 k8 c8,.slice none 0 0,.slice none 0 0]) (fun _ _=>0)
       case atStart=>exact ⟨rfl,S1⟩
       case round=>
        obtain ⟨rfl,U1⟩:=hrel
        clear S1
        go_wp2_with fail
        refine (U1.num0 1 (Or.inl rfl)).mono ?_
        rintro e t2 ⟨rfl,S2⟩
        clear U1
        go_wp2_with fail
        go_loopw [10] (fun i wr=>i=.int .i64 0∧Ss w wr b n cap zs none #[.string nm,.slice a1 tz.length d1,.slice a7 k7 c7,.slice a3 dz.length d3,.int .i64 (m6:Int),.slice a8 k8 c8,.slice none 0 0,.slice none 0 0]) (fun _ _=>0)
        case atStart=>exact ⟨rfl,S2⟩
        case round=>
         obtain ⟨rfl,U2⟩:=hrel
         clear S2
         have qs:=U2.short
         simp at qs
         obtain ⟨u0,u1,u2,u3,u4,u5,u6,u7⟩:=z8_cells U2.k1
         obtain ⟨p0,p1,p2,p3,p4,p5,p6,p7⟩:=z8_cells U2.k0
         obtain ⟨y0,y1,y2,y3,y4,y5,y6,y7⟩:=z8_frozen U2.k0
         have HE:=hide U2
         clear U2
         go_wp2
         exact none_end HE.out.be HE.out.k0 2 _ HP.out _ rfl rfl
     | some r=>
       simp at q2
       obtain ⟨p2,f2⟩:=S.two 5 (.slice a8 k8 c8) rfl
       have HO:=hide (And.intro O (And.intro S (And.intro T L)))
       have hszw:=S.sz
       have hsz3:=T.size
       have HBL:=hide hx8
       clear O S T L hx8
       go_wp2_with fail
       go_region_law (first
        | (refine step_append_lies _ rfl _ _ 24 rfl w8.heap.size 3 iI8 (.int .i64 0) 1 8 Tryz.underlying24 hi8 hz08 hz18 hz28 rfl (by decide) (.slice a8 k8 c8) k8 (x8.flatMap clI) rfl HOW.out ⟨wa.heap.size,0,none⟩ 1 1 (clI (x:Int)) rfl rfl (cells_new wa _ _ (clI (x:Int)) rfl) (by intro u hu;simp [clI,clT] at hu;subst hu;rfl) (by decide) (by unfold maxLen;omega) (by omega) (by simp;omega) _ rfl ?_;intro g4 c4 w4 hown hgr hat hlt4;obtain ⟨p4,f4⟩:=(SAL.out.grown hgr (fun j hj=>(OAL.out.lt j hj).1) (by omega)).two 5 (.slice a8 k8 c8) rfl)
        | (go_simp;go_at_call 152;refine (Ss.num (w:=w) (b:=b) (n:=n) (cap:=cap) (zs:=zs) (st:=some r) (cs:=#[.string nm,.slice a1 tz.length d1,.slice a7 k7 c7,.slice a3 dz.length d3,.int .i64 (m6:Int),.slice a8 k8 c8,.slice none 0 0,.slice none 0 0]) (by first | exact HO.out.2.1 | exact HO.out.2.1.drew) 2 (Or.inr rfl)).mono ?_;rintro e wa ⟨x,s4,rfl,_,_,La,SA,Ta⟩;have Ta':Turn (Sg w) wr8 wa:=⟨Ta.os,Ta.tape,Ta.output,Ta.size,Ta.block⟩;have al:Below wa.heap.size wa (wa.alloc (.cells #[.int .i64 (x:Int)] 3)):=(Below.refl _ _).alloc (Nat.le_refl _) _;obtain ⟨pa,fa⟩:=SA.two 5 (.slice a8 k8 c8) rfl;have hsa:=SA.sz;have hsa3:=Ta'.size;have OAL:=hide ((HO.out.1.turn Ta' (fun j hj=>by unfold Sg at hj;omega)).turn (S:=fun _=>False) (turn_below al) (fun j hj=>absurd hj id));have SAL:=hide (SA.below al);obtain ⟨pb,fb⟩:=SAL.out.two 5 (.slice a8 k8 c8) rfl;have HOW:=hide (show (wa.alloc (.cells #[.int .i64 (x:Int)] 3)).ownsRow w8.heap.size 3 1 (.slice a8 k8 c8) k8 (x8.flatMap clI) by have:=OAL.out;unfold OG at this;rw [HBL.out] at this;exact this);have HX:=hide (And.intro (True.intro) (And.intro Ta' La));clear Ta Ta' La al SA))
       all_goals
        obtain ⟨O,S,T,L⟩:=HO.out
        obtain ⟨ox,Ta,La⟩:=HX.out
        have hrow:∀ j,(Value.slice a8 k8 c8).ownBlock=some j→w8.heap.size≤j:=fun j hj=>(OAL.out.lt j hj).1
        have O4:OG 3 1 clI w4 w8.heap.size (.slice (some ⟨g4,0,none⟩) (k8+1) c4) (x8++[(x:Int)]):=by
         unfold OG
         rw [List.length_append,HBL.out,List.flatMap_append,List.flatMap_singleton]
         exact hown
        have O5:=O4.turn (turn_set w4 (w.heap.size+3) 5 (.slice (some ⟨g4,0,none⟩) (k8+1) c4)) (fun j hj=>by omega)
        clear O4
        have S5:Ss w (w4.setCell ⟨w.heap.size+3,5,none⟩ (.slice (some ⟨g4,0,none⟩) (k8+1) c4)) b n cap zs s4 #[.string nm,.slice a1 tz.length d1,.slice a7 k7 c7,.slice a3 dz.length d3,.int .i64 (m6:Int),.slice (some ⟨g4,0,none⟩) (k8+1) c4,.slice none 0 0,.slice none 0 0]:=(SAL.out.grown hgr hrow (by omega)).set 5 (.slice (some ⟨g4,0,none⟩) (k8+1) c4)
        have T5:Turn (Sg w) w8 (w4.setCell ⟨w.heap.size+3,5,none⟩ (.slice (some ⟨g4,0,none⟩) (k8+1) c4)):=(turn_grown ((T.trans Ta).trans (turn_alloc _ _)) hgr hrow).trans (Sg.b 5 (.slice (some ⟨g4,0,none⟩) (k8+1) c4))
        have L5:=L.step hlt8 La
        have HF:=hide (And.intro O5 (And.intro S5 (And.intro T5 L5)))
        have HLE:=hide (show (x8++[(x:Int)]).length=k8+1 by rw [List.length_append,HBL.out];rfl)
        have HDEC:=hide (show ((m8 - k8:Nat):Int) - 1=((m8 - (k8+1):Nat):Int) by omega)
        clear O S T L ox Ta La hrow O5 S5 T5 L5 HO HX OAL SAL HOW hown hgr hat hlt4 p4 f4 pa fa pb fb
        go_wp2
        go_roundw
        case rel=>exact ⟨k8+1,x8++[(x:Int)],s4,some ⟨g4,0,none⟩,c4,by omega,by rw [← HDEC.out],HLE.out,HF.out.1,HF.out.2.1,HF.out.2.2.1,HF.out.2.2.2⟩
        case measure=>simp [intOf];omega
    ·have hlt':¬ (0:Int)<((m8 - k8:Nat):Int):=by omega
     have hkm8:k8=m8:=by omega
     have HL8:=hide (L.done (.inl hkm8) hk8)
     have HX8:=hide hx8
     have HA2:=hide (HST.out _ _ T HA.out)
     have HB:=hide O
     have HT:=hide T.size
     have E:=S
     clear HA L T O S hx8 hkm8
     have HA:=HA2
     clear HA2
     have HSR:=hide (show ∀ j,(Value.slice a8 k8 c8).ownBlock=some j→w8.heap.size≤j from fun j hj=>(HB.out.lt j hj).1)
     have HAn:=hide (And.intro HA.out (HB.out.mono hsz8))
     have HSTn:=hide (HST.out.and (sts_og (w:=w) (t:=3) (sz:=1) (f:=clI) (v:=.slice a8 k8 c8) (xs:=x8) (Nat.le_refl _)))
     clear HA HST HB
     have HA:=HAn
     have HST:=HSTn
     clear HAn HSTn q2
     go_wp2_with fail
     refine (E.num 1 (Or.inl rfl)).mono ?_
     rintro e w9 ⟨m9,s9,rfl,hl9,hm9,L,En,T⟩
     have hm9:=hm9 rfl
     have HL9n:=hide L
     have HA2:=hide (HST.out _ _ T HA.out)
     clear HA L T E
     have HA:=HA2
     have E:=En
     clear HA2 En
     obtain ⟨iI9,hi9,hz09,hz19,hz29⟩:=info_parts infoT
     have hsz9:=E.sz
     go_wp2_with fail
     go_loopw [9] (fun i wr=>∃ (k:Nat) (xs:List ByteArray) (s':Option (List Int)) (a:Option Addr) (c:Nat),k≤m9∧i=.int .i64 ((m9 - k:Nat):Int)∧xs.length=k∧OG 9 1 clT wr w9.heap.size (.slice a k c) xs∧Ss w wr b n cap zs s' #[.string nm,.slice a1 tz.length d1,.slice a7 k7 c7,.slice a3 dz.length d3,.int .i64 (m6:Int),.slice a8 k8 c8,.slice a k c,.slice none 0 0]∧Turn (Sg w) w9 wr∧Lm pT m9 k s9 xs s') (fun i _=>(intOf i).toNat)
     case atStart=>exact ⟨0,[],s9,none,0,Nat.zero_le _,rfl,rfl,og_nil _ _ _ _ _,E,Turn.refl _ _,lm_zero _ _ _⟩
     case round=>
      obtain ⟨k9,x9,r9,a9,c9,hk9,rfl,hx9,O,S,T,L⟩:=hrel
      generalize wr=wr9 at *
      clear E
      have q2:=S.short
      by_cases hlt9:k9<m9
      ·have hlt':(0:Int)<((m9 - k9:Nat):Int):=by omega
       cases r9 with
       | none=>
         simp at q2
         have HP:=hide (prs2_none (lf_mod HLt.out HLw.out HL3n.out HL7.out HL4n.out HLb.out HL6n.out HL8n.out HL8.out HL9n.out (L.done (.inr rfl) hk9) (lf_dead (pN 1) 0) (lf_dead (pM pX 0) [])))
         clear O T L HA HST HLt HLw HL3n HL7 HL4n HLb HL6n HL8n HL8 HL9n
         go_wp2_with fail
         refine (S.num0 1 (Or.inl rfl)).mono ?_
         rintro e t1 ⟨rfl,S1⟩
         clear S
         go_wp2_with fail
         go_loopw [10] (fun i wr=>i=.int .i64 0∧Ss w wr b n cap zs none #[.string nm,.slice a1 tz.length d1,.slice a7 k7 c7,.slice a3 dz.length d3,.int .i64 (m6:Int),.slice a8 k8 c8,.slice a9 k9 c9,.slice none 0 0]) (fun _ _=>0)
         case atStart=>exact ⟨rfl,S1⟩
         case round=>
          obtain ⟨rfl,U1⟩:=hrel
          clear S1
          have qs:=U1.short
          simp at qs
          obtain ⟨u0,u1,u2,u3,u4,u5,u6,u7⟩:=z8_cells U1.k1
          obtain ⟨p0,p1,p2,p3,p4,p5,p6,p7⟩:=z8_cells U1.k0
          obtain ⟨y0,y1,y2,y3,y4,y5,y6,y7⟩:=z8_frozen U1.k0
          have HE:=hide U1
          clear U1
          go_wp2
          exact none_end HE.out.be HE.out.k0 2 _ HP.out _ rfl rfl
       | some r=>
         simp at q2
         obtain ⟨p2,f2⟩:=S.two 6 (.slice a9 k9 c9) rfl
         have HO:=hide (And.intro O (And.intro S (And.intro T L)))
         have hszw:=S.sz
         have hsz3:=T.size
         have HBL:=hide hx9
         clear O S T L hx9
         go_wp2_with fail
         go_region_law (first
          | (refine step_append_lies _ rfl _ _ 94 rfl w9.heap.size 9 iI9 (.string ⟨#[]⟩) 1 16 Tryz.underlying94 hi9 hz09 hz19 hz29 rfl (by decide) (.slice a9 k9 c9) k9 (x9.flatMap clT) rfl HOW.out ⟨wa.heap.size,0,none⟩ 1 1 (clT x) rfl rfl (cells_new wa _ _ (clT x) rfl) (by intro u hu;simp [clI,clT] at hu;subst hu;rfl) (by decide) (by unfold maxLen;omega) (by omega) (by simp;omega) _ rfl ?_;intro g4 c4 w4 hown hgr hat hlt4;obtain ⟨p4,f4⟩:=(SAL.out.grown hgr (fun j hj=>(OAL.out.lt j hj).1) (by omega)).two 6 (.slice a9 k9 c9) rfl)
          | (go_simp;go_at_call 150;refine (Ss.text (w:=w) (b:=b) (n:=n) (cap:=cap) (zs:=zs) (st:=some r) (cs:=#[.string nm,.slice a1 tz.length d1,.slice a7 k7 c7,.slice a3 dz.length d3,.int .i64 (m6:Int),.slice a8 k8 c8,.slice a9 k9 c9,.slice none 0 0]) (by first | exact HO.out.2.1 | exact HO.out.2.1.drew)).mono ?_;rintro e wa ⟨x,s4,rfl,La,SA,Ta⟩;have Ta':Turn (Sg w) wr9 wa:=⟨Ta.os,Ta.tape,Ta.output,Ta.size,Ta.block⟩;have al:Below wa.heap.size wa (wa.alloc (.cells #[.string x] 9)):=(Below.refl _ _).alloc (Nat.le_refl _) _;obtain ⟨pa,fa⟩:=SA.two 6 (.slice a9 k9 c9) rfl;have hsa:=SA.sz;have hsa3:=Ta'.size;have OAL:=hide ((HO.out.1.turn Ta' (fun j hj=>by unfold Sg at hj;omega)).turn (S:=fun _=>False) (turn_below al) (fun j hj=>absurd hj id));have SAL:=hide (SA.below al);obtain ⟨pb,fb⟩:=SAL.out.two 6 (.slice a9 k9 c9) rfl;have HOW:=hide (show (wa.alloc (.cells #[.string x] 9)).ownsRow w9.heap.size 9 1 (.slice a9 k9 c9) k9 (x9.flatMap clT) by have:=OAL.out;unfold OG at this;rw [HBL.out] at this;exact this);have HX:=hide (And.intro (True.intro) (And.intro Ta' La));clear Ta Ta' La al SA))
         all_goals
          obtain ⟨O,S,T,L⟩:=HO.out
          obtain ⟨ox,Ta,La⟩:=HX.out
          have hrow:∀ j,(Value.slice a9 k9 c9).ownBlock=some j→w9.heap.size≤j:=fun j hj=>(OAL.out.lt j hj).1
          have O4:OG 9 1 clT w4 w9.heap.size (.slice (some ⟨g4,0,none⟩) (k9+1) c4) (x9++[x]):=by
           unfold OG
           rw [List.length_append,HBL.out,List.flatMap_append,List.flatMap_singleton]
           exact hown
          have O5:=O4.turn (turn_set w4 (w.heap.size+3) 6 (.slice (some ⟨g4,0,none⟩) (k9+1) c4)) (fun j hj=>by omega)
          clear O4
          have S5:Ss w (w4.setCell ⟨w.heap.size+3,6,none⟩ (.slice (some ⟨g4,0,none⟩) (k9+1) c4)) b n cap zs s4 #[.string nm,.slice a1 tz.length d1,.slice a7 k7 c7,.slice a3 dz.length d3,.int .i64 (m6:Int),.slice a8 k8 c8,.slice (some ⟨g4,0,none⟩) (k9+1) c4,.slice none 0 0]:=(SAL.out.grown hgr hrow (by omega)).set 6 (.slice (some ⟨g4,0,none⟩) (k9+1) c4)
          have T5:Turn (Sg w) w9 (w4.setCell ⟨w.heap.size+3,6,none⟩ (.slice (some ⟨g4,0,none⟩) (k9+1) c4)):=(turn_grown ((T.trans Ta).trans (turn_alloc _ _)) hgr hrow).trans (Sg.b 6 (.slice (some ⟨g4,0,none⟩) (k9+1) c4))
          have L5:=L.step hlt9 La
          have HF:=hide (And.intro O5 (And.intro S5 (And.intro T5 L5)))
          have HLE:=hide (show (x9++[x]).length=k9+1 by rw [List.length_append,HBL.out];rfl)
          have HDEC:=hide (show ((m9 - k9:Nat):Int) - 1=((m9 - (k9+1):Nat):Int) by omega)
          clear O S T L ox Ta La hrow O5 S5 T5 L5 HO HX OAL SAL HOW hown hgr hat hlt4 p4 f4 pa fa pb fb
          go_wp2
          go_roundw
          case rel=>exact ⟨k9+1,x9++[x],s4,some ⟨g4,0,none⟩,c4,by omega,by rw [← HDEC.out],HLE.out,HF.out.1,HF.out.2.1,HF.out.2.2.1,HF.out.2.2.2⟩
          case measure=>simp [intOf];omega
      ·have hlt':¬ (0:Int)<((m9 - k9:Nat):Int):=by omega
       have hkm9:k9=m9:=by omega
       have HL9:=hide (L.done (.inl hkm9) hk9)
       have HX9:=hide hx9
       have HA2:=hide (HST.out _ _ T HA.out)
       have HB:=hide O
       have HT:=hide T.size
       have E:=S
       clear HA L T O S hx9 hkm9
       have HA:=HA2
       clear HA2
       have HAn:=hide (And.intro HA.out (HB.out.mono hsz9))
       have HSTn:=hide (HST.out.and (sts_og (w:=w) (t:=9) (sz:=1) (f:=clT) (v:=.slice a9 k9 c9) (xs:=x9) (Nat.le_refl _)))
       clear HA HST HB
       have HA:=HAn
       have HST:=HSTn
       clear HAn HSTn q2
       go_wp2_with fail
       refine (E.num 1 (Or.inl rfl)).mono ?_
       rintro e w10 ⟨m10,s10,rfl,hl10,hm10,L,En,T⟩
       have hm10:=hm10 rfl
       have HL10n:=hide L
       have HA2:=hide (HST.out _ _ T HA.out)
       clear HA L T E
       have HA:=HA2
       have E:=En
       clear HA2 En
       obtain ⟨iI10,hi10,hz010,hz110,hz210⟩:=info_parts infoX
       have hsz10:=E.sz
       go_wp2_with fail
       go_loopw [10] (fun i wr=>∃ (k:Nat) (xs:List Ex) (s':Option (List Int)) (a:Option Addr) (c:Nat),k≤m10∧i=.int .i64 ((m10 - k:Nat):Int)∧xs.length=k∧OG 207 3 clX wr w10.heap.size (.slice a k c) xs∧Ss w wr b n cap zs s' #[.string nm,.slice a1 tz.length d1,.slice a7 k7 c7,.slice a3 dz.length d3,.int .i64 (m6:Int),.slice a8 k8 c8,.slice a9 k9 c9,.slice a k c]∧Turn (Sg w) w10 wr∧Lm pX m10 k s10 xs s') (fun i _=>(intOf i).toNat)
       case atStart=>exact ⟨0,[],s10,none,0,Nat.zero_le _,rfl,rfl,og_nil _ _ _ _ _,E,Turn.refl _ _,lm_zero _ _ _⟩
       case round=>
        obtain ⟨k10,x10,r10,a10,c10,hk10,rfl,hx10,O,S,T,L⟩:=hrel
        generalize wr=wr10 at *
        clear E
        have q2:=S.short
        by_cases hlt10:k10<m10
        ·have hlt':(0:Int)<((m10 - k10:Nat):Int):=by omega
         cases r10 with
         | none=>
           simp at q2
           have HP:=hide (prs2_none (lf_mod HLt.out HLw.out HL3n.out HL7.out HL4n.out HLb.out HL6n.out HL8n.out HL8.out HL9n.out HL9.out HL10n.out (L.done (.inr rfl) hk10) ))
           clear O T L HA HST HLt HLw HL3n HL7 HL4n HLb HL6n HL8n HL8 HL9n HL9 HL10n
           have qs:=S.short
           simp at qs
           obtain ⟨u0,u1,u2,u3,u4,u5,u6,u7⟩:=z8_cells S.k1
           obtain ⟨p0,p1,p2,p3,p4,p5,p6,p7⟩:=z8_cells S.k0
           obtain ⟨y0,y1,y2,y3,y4,y5,y6,y7⟩:=z8_frozen S.k0
           have HE:=hide S
           clear S
           go_wp2
           exact none_end HE.out.be HE.out.k0 2 _ HP.out _ rfl rfl
         | some r=>
           simp at q2
           have al:Below wr10.heap.size wr10 (wr10.alloc (.cells #[.string ⟨#[]⟩,.int .i64 0,.int .i64 0] 207)):=(Below.refl _ _).alloc (Nat.le_refl _) _
           have X0:=Blk.new wr10 #[.string ⟨#[]⟩,.int .i64 0,.int .i64 0] 207
           have S0:=S.below al
           have hszw:=S.sz
           have hsz3:=T.size
           have HO:=hide (And.intro O (And.intro T L))
           have HBL:=hide hx10
           have HT0:=hide (turn_alloc wr10 (.cells #[.string ⟨#[]⟩,.int .i64 0,.int .i64 0] 207) |>.mono (S':=Sg w) (fun j hj=>absurd hj id))
           clear O S T L hx10 al
           go_wp2_with fail
           refine S0.text.mono ?_
           rintro e y1 ⟨nx,z1,rfl,La,S1,T1⟩
           have X1:=turn_blk T1 X0 (by unfold Sg;omega)
           have q0:y1.cell? ⟨wr10.heap.size,0,none⟩=some (.string ⟨#[]⟩):=X1.cell 0
           have f0:=X1.frozen 0
           have HT1:=hide (HT0.out.trans T1)
           have S1:=S1.other (g:=wr10.heap.size) 0 (.string nx) hszw
           have X1:Blk (y1.setCell ⟨wr10.heap.size,0,none⟩ (.string nx)) wr10.heap.size #[.string nx,.int .i64 0,.int .i64 0] 207:=X1.set 0 (.string nx)
           have HT1:=hide (turn_new' HT1.out (Nat.le_refl _) 0 (.string nx))
           clear S0 X0 T1 HT0
           go_wp2_with fail
           refine (S1.num 1 (Or.inl rfl)).mono ?_
           rintro e y2 ⟨bk,z2,rfl,hbk0,hbk,Lb,S2,T2⟩
           have hbk:=hbk rfl
           have X2:=turn_blk T2 X1 (by unfold Sg;omega)
           have q1:y2.cell? ⟨wr10.heap.size,1,none⟩=some (.int .i64 0):=X2.cell 1
           have f1:=X2.frozen 1
           have hwb:IntKind.i64.wrap ((bk:Int) - 1)=(bk:Int) - 1:=by rw [IntKind.wrap_i64];omega
           have HT2:=hide (HT1.out.trans T2)
           have S2:=S2.other (g:=wr10.heap.size) 1 (.int .i64 ((bk:Int) - 1)) hszw
           have X2:Blk (y2.setCell ⟨wr10.heap.size,1,none⟩ (.int .i64 ((bk:Int) - 1))) wr10.heap.size #[.string nx,.int .i64 ((bk:Int) - 1),.int .i64 0] 207:=X2.set 1 (.int .i64 ((bk:Int) - 1))
           have HT2:=hide (turn_new' HT2.out (Nat.le_refl _) 1 (.int .i64 ((bk:Int) - 1)))
           clear S1 X1 T2 HT1 q0 f0
           go_wp2_with fail
           refine (S2.num 2 (Or.inr rfl)).mono ?_
           rintro e y3 ⟨ea,s4,rfl,hea,_,Lc,S3,T3⟩
           have X3:=turn_blk T3 X2 (by unfold Sg;omega)
           have q3:y3.cell? ⟨wr10.heap.size,2,none⟩=some (.int .i64 0):=X3.cell 2
           have f3:=X3.frozen 2
           have HT3:=hide (HT2.out.trans T3)
           have S3:=S3.other (g:=wr10.heap.size) 2 (.int .i64 (ea:Int)) hszw
           have X3:Blk (y3.setCell ⟨wr10.heap.size,2,none⟩ (.int .i64 (ea:Int))) wr10.heap.size #[.string nx,.int .i64 ((bk:Int) - 1),.int .i64 (ea:Int)] 207:=X3.set 2 (.int .i64 (ea:Int))
           have HT3:=hide (turn_new' HT3.out (Nat.le_refl _) 2 (.int .i64 (ea:Int)))
           have Lx:=lf_X La Lb Lc
           clear S2 X2 T3 HT2 q1 f1 La Lb Lc
           obtain ⟨W5,hW5⟩:∃ W5,W5=y3.setCell ⟨wr10.heap.size,2,none⟩ (.int .i64 (ea:Int)):=⟨_,rfl⟩
           have HS5:=hide (show W5.heap.size=y3.heap.size by rw [hW5];exact size_setCell _ _ _)
           have al5:Below W5.heap.size W5 (W5.alloc (.cells #[.string nx,.int .i64 ((bk:Int) - 1),.int .i64 (ea:Int)] 207)):=(Below.refl _ _).alloc (Nat.le_refl _) _
           rw [← hW5] at S3 X3 HT3
           obtain ⟨xa,xb,xc,_⟩:=X3.three
           obtain ⟨pa,fa⟩:=S3.two 7 (.slice a10 k10 c10) rfl
           have hsz5:=HT3.out.size
           have OAL:=hide ((HO.out.1.turn HT3.out (fun j hj=>by unfold Sg at hj;omega)).turn (S:=fun _=>False) (turn_below al5) (fun j hj=>absurd hj id))
           have HOW:=hide (show (W5.alloc (.cells #[.string nx,.int .i64 ((bk:Int) - 1),.int .i64 (ea:Int)] 207)).ownsRow w10.heap.size 207 3 (.slice a10 k10 c10) k10 (x10.flatMap clX) by have:=OAL.out;unfold OG at this;rw [HBL.out] at this;exact this)
           have HS:=hide (S3.below al5)
           have HTT:=hide ((HO.out.2.1.trans HT3.out).trans (turn_alloc W5 (.cells #[.string nx,.int .i64 ((bk:Int) - 1),.int .i64 (ea:Int)] 207)))
           have HLE:=hide (show (x10++[((nx,((bk:Int) - 1),(ea:Int)):Ex)]).length=k10+1 by rw [List.length_append,HBL.out];rfl)
           rw [hW5] at xa xb xc pa fa
           clear S3 X3 al5 HT3
           go_wp2_with (at_builtin;rw [← hW5];refine wpList_append_own _ rfl _ _ 102 rfl w10.heap.size 207 iI10 (.agg #[.string ⟨#[]⟩,.int .i64 0,.int .i64 0]) 3 32 Tryz.underlying102 hi10 hz010 hz110 hz210 rfl (by decide) (.slice a10 k10 c10) k10 (x10.flatMap clX) rfl HOW.out ⟨y3.heap.size,0,none⟩ 1 1 (clX (nx,((bk:Int) - 1),(ea:Int))) rfl rfl (by rw [← HS5.out];exact cells_new W5 _ _ (clX (nx,((bk:Int) - 1),(ea:Int))) rfl) (by intro u hu;simp [clX] at hu;rcases hu with rfl | rfl | rfl <;> rfl) (by unfold maxLen;omega) (by omega) (by simp;omega) ?_;intro v' w4 hown hgr _;have hrow:∀ j,(Value.slice a10 k10 c10).ownBlock=some j→w10.heap.size≤j:=fun j hj=>(OAL.out.lt j hj).1;have O4:OG 207 3 clX w4 w10.heap.size v' (x10++[(nx,((bk:Int) - 1),(ea:Int))]):=(by unfold OG;rw [List.length_append,HBL.out,List.flatMap_append,List.flatMap_singleton];exact hown);have S4:=HS.out.grown hgr hrow (by omega);obtain ⟨g4,c4,rfl⟩:=og_shape O4;rw [HLE.out] at O4 ⊢;obtain ⟨p4,f4⟩:=S4.two 7 (.slice a10 k10 c10) rfl;have T4:=turn_grown HTT.out hgr hrow;have H4:=hide (And.intro O4 (And.intro S4 T4));clear O4 S4 T4 hown hgr hrow OAL HOW HS HTT xa xb xc pa fa)
           obtain ⟨O4,S4,T4⟩:=H4.out
           have O5:=O4.turn (turn_set w4 (w.heap.size+3) 7 (.slice g4 (k10+1) c4)) (fun j hj=>by omega)
           have S5:Ss w (w4.setCell ⟨w.heap.size+3,7,none⟩ (.slice g4 (k10+1) c4)) b n cap zs s4 #[.string nm,.slice a1 tz.length d1,.slice a7 k7 c7,.slice a3 dz.length d3,.int .i64 (m6:Int),.slice a8 k8 c8,.slice a9 k9 c9,.slice g4 (k10+1) c4]:=S4.set 7 (.slice g4 (k10+1) c4)
           have T5:=T4.trans (Sg.b (w:=w) 7 (.slice g4 (k10+1) c4))
           have L5:=HO.out.2.2.step hlt10 Lx
           have HF:=hide (And.intro O5 (And.intro S5 (And.intro T5 L5)))
           have HDEC:=hide (show ((m10 - k10:Nat):Int) - 1=((m10 - (k10+1):Nat):Int) by omega)
           clear O4 S4 T4 O5 S5 T5 L5 H4 HO
           go_wp2
           go_roundw
           case rel=>exact ⟨k10+1,x10++[((nx,((bk:Int) - 1),(ea:Int)):Ex)],s4,g4,c4,by omega,by rw [← HDEC.out],HLE.out,HF.out.1,HF.out.2.1,HF.out.2.2.1,HF.out.2.2.2⟩
           case measure=>simp [intOf];omega
        ·have hlt':¬ (0:Int)<((m10 - k10:Nat):Int):=by omega
         have hkm10:k10=m10:=by omega
         have HL10:=hide (L.done (.inl hkm10) hk10)
         have HX10:=hide hx10
         have HA2:=hide (HST.out _ _ T HA.out)
         have HB:=hide O
         have HT:=hide T.size
         have E:=S
         clear HA L T O S hx10 hkm10
         have HA:=HA2
         clear HA2
         have LP:=lf_mod HLt.out HLw.out HL3n.out HL7.out HL4n.out HLb.out HL6n.out HL8n.out HL8.out HL9n.out HL9.out HL10n.out HL10.out
         clear HLt HLw HL3n HL7 HL4n HLb HL6n HL8n HL8 HL9n HL9 HL10n HL10
         have HAn:=hide (And.intro HA.out (HB.out.mono hsz10))
         clear HA HST HB
         cases r10 with
         | none=>
           have HP:=hide (prs2_none LP)
           clear LP
           have qs:=E.short
           simp at qs
           obtain ⟨u0,u1,u2,u3,u4,u5,u6,u7⟩:=z8_cells E.k1
           obtain ⟨p0,p1,p2,p3,p4,p5,p6,p7⟩:=z8_cells E.k0
           obtain ⟨y0,y1,y2,y3,y4,y5,y6,y7⟩:=z8_frozen E.k0
           have HE:=hide E
           clear E
           go_wp2
           exact none_end HE.out.be HE.out.k0 2 _ HP.out _ rfl rfl
         | some r=>
           simp at q2
           obtain ⟨hpm,hpr⟩:=prs2_some LP
           clear LP
           have e7:=HX7.out
           have e8:=HX8.out
           have e9:=HX9.out
           have e10:=HX10.out
           subst e7 e8 e9 e10
           have HR:=hide (pm_of (HBY.out.drop 2) hpm).1
           have HPR:=hide hpr
           obtain ⟨kk,hkk,hkb,hkr⟩:=E.rd.pos
           have hkr:=hkr r rfl
           have hrl:r.length=n - kk:=by rw [hkr,List.length_drop,hl]
           obtain ⟨g0,g1,g2,_⟩:=hkb.three
           clear hkr hkb hpm hpr
           have HE:=hide E
           by_cases hr0:r=[]
           ·have hcm:¬ (kk:Int)<(n:Int):=by rw [hr0] at hrl;simp at hrl;omega
            have hpr:=HPR.out
            rw [if_neg (by simp [hr0])] at hpr
            have HP3:=hide hpr
            clear hpr HPR
            obtain ⟨⟨⟨⟨⟨o1,o2⟩,o3⟩,o5⟩,o6⟩,o7⟩:=HAn.out
            have MO:ModO wr10 (w.heap.size+4) (⟨nm,tz,x7.map (fun B=>B.2.2.2),dz,(m6:Int),x8,x9,x10⟩:PMod) a1 d1 a7 c7 x7 a3 d3 a8 c8 a9 c9 a10 c10:=⟨o1,o2,rfl,o3,o5,o6,o7,fun k hk B hB e=>by have h1:=HT1.out k hk;have h2:=(HB8.out B hB k e).1;omega,fun k hk e=>by have h1:=HT8.out k hk;have h2:=HSR.out k e;omega,fun k hk B hB e=>by have h1:=HSR.out k hk;have h2:=(HB8.out B hB k e).2;omega⟩
            clear o1 o2 o3 o5 o6 o7 HAn HT1 HB8 HT8 HSR
            obtain ⟨j0,j1,j2,j3,j4,j5,j6,j7⟩:=E.k2.eight'
            have HMO:=hide MO
            obtain ⟨V,hV⟩:∃ V,V=mdoP (⟨nm,tz,x7.map (fun B=>B.2.2.2),dz,(m6:Int),x8,x9,x10⟩:PMod):=⟨_,rfl⟩
            have hq:mdo nm tz.length tz x7.length x7 dz.length (m6:Int) x8.length x8 x9.length x9 x10.length x10=V:=MO.mdo.trans hV.symm
            have hmr:=mdo_range nm tz.length tz x7.length x7 dz.length (m6:Int) x8.length x8 x9.length x9 x10.length x10
            rw [hq] at hmr
            have HMD:Hid (MD wr10 nm a1 tz.length d1 tz a7 x7.length c7 x7 a3 dz.length d3 dz (m6:Int) a8 x8.length c8 x8 a9 x9.length c9 x9 a10 x10.length c10 x10):=hide (MO.md HR.out)
            have HOK:=hide (fun W (hb:Below wr10.heap.size wr10 W)=>sModuleOk_any nm a1 tz.length d1 tz a7 x7.length c7 x7 a3 dz.length d3 dz (m6:Int) a8 x8.length c8 x8 a9 x9.length c9 x9 a10 x10.length c10 x10 W (HMD.out.below hb))
            rw [hq] at HOK
            have HV:=hide hV
            clear hV MO E hq HR
            go_wp2_with fail
            refine (HOK.out wr10 (Below.refl _ _)).mono ?_
            rintro e w11 ⟨rfl,hb11⟩
            have HE1:=hide (HE.out.below hb11)
            have HMO1:=hide (HMO.out.turn (S:=fun _=>False) (turn_below hb11) (fun k hk=>absurd hk id))
            have HB11:=hide hb11
            clear HE HMO hb11 j0 j1 j2 j3 j4 j5 j6 j7 g0 g1 g2
            obtain ⟨j0,j1,j2,j3,j4,j5,j6,j7⟩:=HE1.out.k2.eight'
            by_cases hz:V=0
            ·have HP:=hide (show prs2 zs=(0,some (⟨nm,tz,x7.map (fun B=>B.2.2.2),dz,(m6:Int),x8,x9,x10⟩:PMod)) by rw [HP3.out,if_neg];rw [← HV.out];simp [hz])
             subst hz
             clear HP3 HOK
             obtain ⟨p0,p1,p2,p3,p4,p5,p6,p7⟩:=z8_cells HE1.out.k0
             obtain ⟨y0,y1,y2,y3,y4,y5,y6,y7⟩:=z8_frozen HE1.out.k0
             go_wp2
             exact mod_end HE1.out.be HE1.out.k0 HMO1.out _ HP.out _ rfl rfl
            ·have HP:=hide (show prs2 zs=(10+V,none) from HP3.out.trans (by rw [← HV.out,if_pos hz]))
             have hz':(V != 0)=true:=by simp [hz]
             have hw10:IntKind.i64.wrap (10+V)=10+V:=wraps62 _ (by omega) (by omega)
             clear HP3
             obtain ⟨u0,u1,u2,u3,u4,u5,u6,u7⟩:=z8_cells HE1.out.k1
             obtain ⟨p0,p1,p2,p3,p4,p5,p6,p7⟩:=z8_cells HE1.out.k0
             obtain ⟨y0,y1,y2,y3,y4,y5,y6,y7⟩:=z8_frozen HE1.out.k0
             go_wp2_with fail
             go_region_law (first
              | (go_simp;go_at_call 154;refine (HOK.out _ (by first | exact HB11.out | exact HB11.out.drew)).mono ?_;rintro e w12 ⟨rfl,hb12⟩;have HE2:=hide (show Ss w w12 b n cap zs (some r) _ from (by first | exact HE1.out.below hb12 | exact HE1.out.drew.below hb12));obtain ⟨v0,v1,v2,v3,v4,v5,v6,v7⟩:=z8_cells HE2.out.k1;obtain ⟨q0,q1,q3,q4,q5,q6,q7,q8⟩:=z8_cells HE2.out.k0;obtain ⟨x0,x1,x2,x3,x4,x5,x6,x71⟩:=z8_frozen HE2.out.k0;obtain ⟨k0,k1,k2,k3,k4,k5,k6,k7⟩:=HE2.out.k2.eight';clear hb12))
             all_goals
              go_wp2
              exact none_end HE2.out.be HE2.out.k0 (10+V) _ HP.out _ rfl rfl
           ·have hcm:(kk:Int)<(n:Int):=by have:r.length≠0:=fun h=>hr0 (List.length_eq_zero_iff.1 h);omega
            have HP:=hide (show prs2 zs=(3,none) by rw [HPR.out,if_pos hr0])
            obtain ⟨u0,u1,u2,u3,u4,u5,u6,u7⟩:=z8_cells E.k1
            obtain ⟨p0,p1,p2,p3,p4,p5,p6,p7⟩:=z8_cells E.k0
            obtain ⟨y0,y1,y2,y3,y4,y5,y6,y7⟩:=z8_frozen E.k0
            clear HPR E
            go_wp2
            exact none_end HE.out.be HE.out.k0 3 _ HP.out _ rfl rfl
theorem prs_two {zs:List Int}(hz:Byt zs)(h:zs.length≤20000∧2≤zs.length∧zs.getD 0 0=88∧zs.getD 1 0=77):prs2 zs=prs zs:=by
 unfold prs
 rw [if_neg (by omega),if_neg (by rw [(mark_of hz).2 ⟨h.2.1,h.2.2.1,h.2.2.2⟩];decide)]
 rfl
theorem sParseModule_any (b n cap:Nat)(zs:List Int)(w:World)(h:BS w (some ⟨b,0,none⟩) n cap zs)(hn:n≤1048576)(hb:b<w.heap.size):
 Calls Tryz.prog 67 #[.slice (some ⟨b,0,none⟩) n cap] w (PaPost w (prs zs)):=by
 have hl:=h.1
 by_cases c:n≤20000∧2≤n∧zs.getD 0 0=88∧zs.getD 1 0=77
 ·rw [← prs_two h.2.2.1 (by rw [hl];exact c)]
  exact sParse_good b n cap zs w h c.1 hb c.2.1 c.2.2.1 c.2.2.2
 ·exact sParse_bad b n cap zs w h hn hb c
def P0:PMod:=⟨⟨#[]⟩,[],[],[],0,[],[],[]⟩
def pOf (zs:List Int):PMod:=(prs zs).2.getD P0
theorem prs_some {zs:List Int}{c:Int}{P:PMod}(h:prs zs=(c,some P)):c=0∧mdoP P=0∧∃ r,pMod (zs.drop 2)=some (P,r):=by
 unfold prs at h
 split at h
 ·simp at h
 split at h
 ·simp at h
 split at h
 ·simp at h
 ·rename_i x hx
  split at h
  ·simp at h
  split at h
  ·simp at h
  ·rename_i h1 h2
   simp at h
   obtain ⟨rfl,rfl⟩:=h
   exact ⟨rfl,by simpa using h2,x.2,by rw [hx]⟩
theorem mt_of_md {nm:ByteArray}{ta:Option Addr}{tn tc:Nat}{tz:List Int}{ba:Option Addr}{bn bc:Nat}{bl:List Bk}{da:Option Addr}{dn dc:Nat}{dz:List Int}{bss:Int}{ra:Option Addr}{rn rc:Nat}{rz:List Int}{ia:Option Addr}{im ic:Nat}{ss:List ByteArray}{ea:Option Addr}{en ec:Nat}{es:List Ex}{w:World}(h:MD w nm ta tn tc tz ba bn bc bl da dn dc dz bss ra rn rc rz ia im ic ss ea en ec es):MT w nm ta tn tc tz ba bn bc bl da dn dc dz bss ra rn rc rz ia im ic ss ea en ec es where
 n:=by have:=h.n;unfold maxLen;omega
 t:=h.t
 b:=h.b
 d:=h.d
 s:=h.s
 r:=h.r
 i:=by
  obtain ⟨h1,h2,h3,h4,h5⟩:=h.i
  refine ⟨h1,h2,fun i=>?_,h4,h5⟩
  by_cases hi:i<ss.length
  ·have:=h3 (ss.getD i zS) (by simp [List.getD_eq_getElem?_getD,hi])
   unfold maxLen;omega
  ·rw [List.getD_eq_getElem?_getD,List.getElem?_eq_none (by omega)]
   decide
 e:=by
  obtain ⟨h1,h2,h3,h4,h5⟩:=h.e
  refine ⟨h1,h2,fun i=>?_,h4,h5⟩
  by_cases hi:i<es.length
  ·have:=h3 (es.getD i zE) (by simp [List.getD_eq_getElem?_getD,hi])
   unfold maxLen;omega
  ·rw [List.getD_eq_getElem?_getD,List.getElem?_eq_none (by omega)]
   decide
def bkF (bl:List Bk)(i:Nat):Option Addr × Nat × Nat:=((bl.getD i zB).1,(bl.getD i zB).2.1,(bl.getD i zB).2.2.1)
def bkX (bl:List Bk)(i:Nat):List Int:=(bl.getD i zB).2.2.2
theorem og_oi {w:World}{base:Nat}{v:Value}{xs:List Int}(h:OG 3 1 clI w base v xs)(hx:∀ z ∈ xs,wfi z):OI w base v xs:=by
 unfold OG at h
 rw [flat_clI] at h
 exact ⟨h,hx⟩
theorem sumB_bkF (bl:List Bk):∀ n,n≤bl.length→sumB (bkF bl) n=((bl.take n).map fun B=>B.2.1).sum
 | 0,_=>by simp [sumB]
 | n+1,h=>by
   show sumB (bkF bl) n+(bkF bl n).2.1=_
   have e:(bkF bl n).2.1=(bl[n]'(by omega)).2.1:=by simp [bkF,List.getD_eq_getElem?_getD,show n<bl.length by omega]
   rw [sumB_bkF bl n (by omega),List.take_add_one,List.getElem?_eq_getElem (by omega),e]
   simp only [Option.toList_some,List.map_append,List.map_cons,List.map_nil,List.sum_append,List.sum_cons,List.sum_nil,Nat.add_zero]
theorem obk_rr {w:World}{base c:Nat}{a:Option Addr}{bl:List Bk}(h:OBk w base (.slice a bl.length c) bl)(hx:∀ B ∈ bl,∀ z ∈ B.2.2.2,wfi z):Rr w base a bl.length (bkF bl) (bkX bl):=by
 have hmem:∀ i,i<bl.length→bl.getD i zB ∈ bl:=fun i hi=>by simp [List.getD_eq_getElem?_getD,hi]
 have rows:∀ i,i<bl.length→OI w base (.slice (bkF bl i).1 (bkF bl i).2.1 (bkF bl i).2.2) (bkX bl i):=fun i hi=>og_oi (h.rows _ (hmem i hi)).2 (hx _ (hmem i hi))
 refine ⟨fun hn=>?_,rows,fun i j hi hj hij k hk=>?_⟩
 ·obtain ⟨hl,⟨h0,h1⟩ | ⟨g,cap,cur,hv,hg,hh,h1,h2,h3,h4⟩⟩:=h.head
  ·exact absurd h1 hn
  ·simp at hv
   refine ⟨g,cur,hv.1,fun ⟨i,hi,e⟩=>?_,hh,fun i hi=>?_⟩
   ·obtain ⟨c1,k1⟩:=own_kind (rows i hi).1 e
    exact absurd (blk_kind k1 hh) (by decide)
   ·have:(cur.toList.take (bl.length * 1))[i]?=(bl.map fun B=>Value.slice B.1 B.2.1 B.2.2.1)[i]?:=by rw [h4]
    rw [List.getElem?_take] at this
    rw [if_pos (by omega)] at this
    rw [← Array.getElem?_toList,this]
    simp [bkF,List.getD_eq_getElem?_getD,hi]
 ·have hp:=List.pairwise_iff_getElem.1 h.apart
  have gi:bl.getD i zB=bl[i]:=by simp [List.getD_eq_getElem?_getD,hi]
  have gj:bl.getD j zB=bl[j]:=by simp [List.getD_eq_getElem?_getD,hj]
  unfold bkF at hk ⊢
  rw [gi] at hk
  rw [gj]
  rcases Nat.lt_or_gt_of_ne hij with h' | h'
  ·exact hp i j hi hj h' k hk
  ·exact fun e=>hp j i hj hi h' k e hk
theorem ModO.m6 {W:World}{base:Nat}{P:PMod}{a1:Option Addr}{c1:Nat}{a2:Option Addr}{c2:Nat}{bl:List Bk}{a3:Option Addr}{c3:Nat}{a5:Option Addr}{c5:Nat}{a6:Option Addr}{c6:Nat}{a7:Option Addr}{c7:Nat}(h:ModO W base P a1 c1 a2 c2 bl a3 c3 a5 c5 a6 c6 a7 c7)(R:PmR P):
 M6 W base (.slice a1 P.tz.length c1) (.slice a3 P.dz.length c3) (.slice a5 P.rz.length c5) (.slice a6 P.ss.length c6) (.slice a7 P.es.length c7) a2 bl.length (bkF bl) P.tz (bkX bl) P.dz P.rz P.ss P.es where
 t:=og_oi h.t (fun z hz=>wd_wfi (R.t.2 z hz))
 b:=obk_rr h.b (fun B hB z hz=>by
  have hm:B.2.2.2 ∈ P.bl:=by rw [← h.bls];exact List.mem_map.2 ⟨B,hB,rfl⟩
  exact wd_wfi ((R.b.2 _ hm).2 z hz))
 d:=h.d
 r:=og_oi h.r (fun z hz=>by have:=R.r.2 z hz;unfold wfi;omega)
 i:=h.i
 e:=h.e
 tr:=h.tr
 tb:=fun k hk ⟨i,hi,e⟩=>h.tb k hk _ (by simp [List.getD_eq_getElem?_getD,hi]) e
 rb:=fun k hk ⟨i,hi,e⟩=>h.br k hk _ (by simp [List.getD_eq_getElem?_getD,hi]) e
theorem ModO.sum {W:World}{base:Nat}{P:PMod}{a1:Option Addr}{c1:Nat}{a2:Option Addr}{c2:Nat}{bl:List Bk}{a3:Option Addr}{c3:Nat}{a5:Option Addr}{c5:Nat}{a6:Option Addr}{c6:Nat}{a7:Option Addr}{c7:Nat}(h:ModO W base P a1 c1 a2 c2 bl a3 c3 a5 c5 a6 c6 a7 c7):sumB (bkF bl) bl.length=(P.bl.map List.length).sum∧bl.length=P.bl.length:=by
 refine ⟨?_,by rw [← h.bls,List.length_map]⟩
 rw [sumB_bkF bl bl.length (Nat.le_refl _),List.take_length,← h.bls,List.map_map]
 congr 1
 apply List.map_congr_left
 intro B hB
 exact (h.b.rows B hB).1
theorem ModO.same {W W':World}{base base':Nat}{P:PMod}{a1:Option Addr}{c1:Nat}{a2:Option Addr}{c2:Nat}{bl:List Bk}{a3:Option Addr}{c3:Nat}{a5:Option Addr}{c5:Nat}{a6:Option Addr}{c6:Nat}{a7:Option Addr}{c7:Nat}{a1':Option Addr}{c1':Nat}{a2':Option Addr}{c2':Nat}{bl':List Bk}{a3':Option Addr}{c3':Nat}{a5':Option Addr}{c5':Nat}{a6':Option Addr}{c6':Nat}{a7':Option Addr}{c7':Nat}(h:ModO W base P a1 c1 a2 c2 bl a3 c3 a5 c5 a6 c6 a7 c7)(h':ModO W' base' P a1' c1' a2' c2' bl' a3' c3' a5' c5' a6' c6' a7' c7'):bl.length=bl'.length∧∀ i,i<bl.length→(bl'.getD i zB).2.1=(bl.getD i zB).2.1∧(bl'.getD i zB).2.2.2=(bl.getD i zB).2.2.2:=by
 have e:bl.map (fun B=>B.2.2.2)=bl'.map (fun B=>B.2.2.2):=h.bls.trans h'.bls.symm
 have hl:bl.length=bl'.length:=by have:=congrArg List.length e;simpa using this
 refine ⟨hl,fun i hi=>?_⟩
 have e2:(bl.getD i zB).2.2.2=(bl'.getD i zB).2.2.2:=by
  have:=congrArg (fun l=>l[i]?) e
  simp [hi,show i<bl'.length by omega] at this
  simpa [List.getD_eq_getElem?_getD,hi,show i<bl'.length by omega] using this
 have m1:bl.getD i zB ∈ bl:=by simp [List.getD_eq_getElem?_getD,hi]
 have m2:bl'.getD i zB ∈ bl':=by simp [List.getD_eq_getElem?_getD,show i<bl'.length by omega]
 exact ⟨by rw [(h'.b.rows _ m2).1,(h.b.rows _ m1).1,e2],e2.symm⟩
structure Mb where
 a1:Option Addr
 c1:Nat
 a2:Option Addr
 c2:Nat
 bl:List Bk
 a3:Option Addr
 c3:Nat
 a5:Option Addr
 c5:Nat
 a6:Option Addr
 c6:Nat
 a7:Option Addr
 c7:Nat
abbrev MOb (W:World)(base:Nat)(x:PMod × Mb):Prop:=ModO W base x.1 x.2.a1 x.2.c1 x.2.a2 x.2.c2 x.2.bl x.2.a3 x.2.c3 x.2.a5 x.2.c5 x.2.a6 x.2.c6 x.2.a7 x.2.c7
def hdP (x:PMod × Mb):Hd × Ct:=(⟨x.2.a1,x.1.tz.length,x.2.c1,x.2.a2,x.2.bl.length,x.2.c2,bkF x.2.bl,x.2.a3,x.1.dz.length,x.2.c3,x.2.a5,x.1.rz.length,x.2.c5,x.2.a6,x.1.ss.length,x.2.c6,x.2.a7,x.1.es.length,x.2.c7⟩,⟨x.1.nm,x.1.tz,bkX x.2.bl,x.1.dz,x.1.bss,x.1.rz,x.1.ss,x.1.es⟩)
def clB (x:PMod × Mb):List Value:=clH (hdP x)
def mdP (x:PMod × Mb):Md:=⟨x.1.nm,x.2.a1,x.1.tz.length,x.2.c1,x.1.tz,x.2.a2,x.2.bl.length,x.2.c2,x.2.bl,x.2.a3,x.1.dz.length,x.2.c3,x.1.dz,x.1.bss,x.2.a5,x.1.rz.length,x.2.c5,x.1.rz,x.2.a6,x.1.ss.length,x.2.c6,x.1.ss,x.2.a7,x.1.es.length,x.2.c7,x.1.es⟩
theorem ModO.keptS {S:Nat→Prop}{W W':World}{base:Nat}{x:PMod × Mb}(h:MOb W base x)(ht:Turn S W W')(hS:∀ {t:TypeId} {sz n:Nat} {v:Value} {xs:List Value},W.ownsRow base t sz v n xs→t≠104→∀ k,v.ownBlock=some k→¬ S k):MOb W' base x:=by
 have row:∀ {t:TypeId} {sz n:Nat} {v:Value} {xs:List Value},W.ownsRow base t sz v n xs→t≠104→W'.ownsRow base t sz v n xs:=fun {t} {sz} {n} {v} {xs} ho hne=>by
  have hk:=hS ho hne
  obtain ⟨hl,h0 | ⟨g,cap,cur,hv,hg,hh,h1,h2,h3,h4⟩⟩:=ho
  ·exact ⟨hl,.inl h0⟩
  ·exact ⟨hl,.inr ⟨g,cap,cur,hv,hg,turn_blk (w:=W) ht hh (hk g (by rw [hv];rfl)),h1,h2,h3,h4⟩⟩
 exact ⟨row h.t (by decide),⟨row h.b.head (by decide),fun B hB=>⟨(h.b.rows B hB).1,row (h.b.rows B hB).2 (by decide)⟩,h.b.apart⟩,h.bls,⟨row h.d.1 (by decide),h.d.2⟩,row h.r (by decide),row h.i (by decide),row h.e (by decide),h.tb,h.tr,h.br⟩
theorem ModO.blw {W W':World}{base:Nat}{x:PMod × Mb}(h:MOb W base x)(hb:Below W.heap.size W W'):MOb W' base x:=ModO.keptS h (S:=fun _=>False) (turn_below hb) (fun _ _ _ _ s=>s)
structure OMp (W:World)(base:Nat)(v:Value)(L:List (PMod × Mb))(β:Nat→Nat):Prop where
 o:OG 104 8 clB W base v L
 m:∀ (i:Nat) (x:PMod × Mb),L[i]?=some x→MOb W (β i) x∧PmR x.1∧∀ j,Sh (hdP x).1 j→j<β (i+1)
 mono:∀ i k,i≤k→k≤L.length→β i≤β k
 lo:base≤β 0
 hi:β L.length≤W.heap.size
theorem OMp.below {W W':World}{base:Nat}{v:Value}{L:List (PMod × Mb)}{β:Nat→Nat}(H:OMp W base v L β)(hb:Below W.heap.size W W'):OMp W' base v L β:=⟨H.o.below hb,fun i x hx=>⟨ModO.blw (H.m i x hx).1 hb,(H.m i x hx).2⟩,H.mono,H.lo,Nat.le_trans H.hi hb.size⟩
theorem flat_hdP (L:List (PMod × Mb)):(L.map hdP).flatMap clH=L.flatMap clB:=by
 rw [List.flatMap_map]
 rfl
theorem OMp.oms {W:World}{base:Nat}{v:Value}{L:List (PMod × Mb)}{β:Nat→Nat}(H:OMp W base v L β):OMs W base v (L.map hdP) β where
 o:=by
  have o:=H.o
  unfold OG at o ⊢
  rw [List.length_map,flat_hdP]
  exact o
 m:=fun i y hy=>by
  rw [List.getElem?_map,Option.map_eq_some_iff] at hy
  obtain ⟨x,hx,rfl⟩:=hy
  obtain ⟨h1,h2,h3⟩:=H.m i x hx
  exact ⟨ModO.m6 h1 h2,h3⟩
 mono:=by rw [List.length_map];exact H.mono
theorem OMp.msd {W:World}{base:Nat}{v:Value}{L:List (PMod × Mb)}{β:Nat→Nat}(H:OMp W base v L β)(hl:L.length≤1000):∃ a cap,v=.slice a L.length cap∧MSD W a L.length cap (L.map mdP):=by
 obtain ⟨a,cap,rfl⟩:=og_shape H.o
 refine ⟨a,cap,rfl,?_⟩
 have hg:∀ i,i<L.length→∃ x,L[i]?=some x∧(L.map mdP).getD i zMd=mdP x:=fun i hi=>⟨L[i],List.getElem?_eq_getElem hi,by simp [List.getD_eq_getElem?_getD,hi]⟩
 have hd:∀ i,i<L.length→((L.map mdP).getD i zMd).md W:=fun i hi=>by
  obtain ⟨x,hx,e⟩:=hg i hi
  rw [e]
  exact ModO.md (H.m i x hx).1 (H.m i x hx).2.1
 refine ⟨⟨by simp,by unfold maxLen;omega,fun hn=>?_,fun i hi=>?_,?_⟩,hd⟩
 ·obtain ⟨g,cp,e,_⟩:=World.ownsRow.form H.o (by omega)
  simp only [Value.slice.injEq] at e
  obtain ⟨rfl,-,rfl⟩:=e
  refine ⟨g,0,rfl,fun i hi=>?_⟩
  obtain ⟨x,hx,e⟩:=hg i hi
  rw [e,Nat.zero_add]
  have k:∀ j,j<8→∀ u,(clB x)[j]?=some u→W.cell? ⟨g,i * 8+j,none⟩=some u:=fun j hj u hu=>by
   have q:=World.ownsRow.cells H.o (g:=g) rfl _ _ ((flat_g8 (fun _=>rfl) L i x hx j hj).trans hu)
   rwa [addr_add,Nat.zero_add] at q
  exact ⟨k 0 (by omega) _ rfl,k 1 (by omega) _ rfl,k 2 (by omega) _ rfl,k 3 (by omega) _ rfl,k 4 (by omega) _ rfl,k 5 (by omega) _ rfl,k 6 (by omega) _ rfl,k 7 (by omega) _ rfl⟩
 ·obtain ⟨x,hx,e⟩:=hg i hi
  have q:=hd i hi
  rw [e] at q ⊢
  exact mt_of_md q
 ·obtain ⟨_,h0 | ⟨g,cp,cur,hv,_,_,h1,_⟩⟩:=H.o
  ·simp at h0
   rw [h0.1.2.1]
   exact Nat.zero_le _
  ·simp only [Value.slice.injEq] at hv
   omega
theorem OMp.pms {W:World}{base:Nat}{v:Value}{L:List (PMod × Mb)}{β:Nat→Nat}(H:OMp W base v L β):pmS (L.map mdP)=L.map (fun x=>x.1):=by
 unfold pmS
 rw [List.map_map]
 apply List.ext_getElem
 ·simp
 ·intro i h1 h2
  simp only [List.length_map] at h1
  have hb:=(H.m i L[i] (List.getElem?_eq_getElem h1)).1.bls
  simp only [List.getElem_map,Function.comp]
  generalize L[i]=x at *
  obtain ⟨⟨nm,tz,bl,dz,bss,rz,ss,es⟩,y⟩:=x
  simp only [Md.pm,mdP] at hb ⊢
  rw [hb]
def bup (β:Nat→Nat)(n a b:Nat)(j:Nat):Nat:=if j≤n then (if j=n then a else β j) else b
theorem OMp.push {W w1 w2 w4:World}{base:Nat}{a:Option Addr}{n c:Nat}{v':Value}{L:List (PMod × Mb)}{β:Nat→Nat}{x:PMod × Mb}(H:OMp W base (.slice a n c) L β)(hl:L.length=n)(b1:Below W.heap.size W w1)(hm:MOb w1 W.heap.size x)(R:PmR x.1)(b2:Below w1.heap.size w1 w2)(hown:w4.ownsRow base 104 8 v' (n+1) (L.flatMap clB++clB x))(hgr:w2.grownBy w4 (Value.slice a n c).ownBlock):OMp w4 base v' (L++[x]) (bup β n W.heap.size w1.heap.size):=by
 have b12:Below W.heap.size W w2:=b1.trans (b2.mono b1.size)
 have H2:=H.below b12
 have T:Turn (fun j=>(Value.slice a n c).ownBlock=some j) w2 w4:=⟨hgr.os,hgr.tape,hgr.output,hgr.size,fun j hj hs=>hgr.block j hj (fun e=>hs e.symm)⟩
 have key:∀ {b:Nat} {y:PMod × Mb},MOb w2 b y→MOb w4 b y:=fun hy=>ModO.keptS hy T (fun ho hne k hk s=>by
  obtain ⟨c1,k1⟩:=own_kind ho hk
  obtain ⟨c2,k2⟩:=own_kind H2.o s
  exact hne (blk_kind k1 k2))
 have hb0:∀ i,i<n→bup β n W.heap.size w1.heap.size i=β i:=fun i hi=>by unfold bup;rw [if_pos (by omega),if_neg (by omega)]
 have hbn:bup β n W.heap.size w1.heap.size n=W.heap.size:=by unfold bup;rw [if_pos (by omega),if_pos rfl]
 have hb1:bup β n W.heap.size w1.heap.size (n+1)=w1.heap.size:=by unfold bup;rw [if_neg (by omega)]
 have hi:=H.hi
 rw [hl] at hi
 have mono:=H.mono
 rw [hl] at mono
 refine ⟨?_,fun i y hy=>?_,fun i k hik hk=>?_,?_,?_⟩
 ·unfold OG
  rw [List.length_append,hl,List.flatMap_append,List.flatMap_singleton]
  exact hown
 ·by_cases e:i=n
  ·subst e
   rw [List.getElem?_append_right (by omega),hl,Nat.sub_self] at hy
   simp at hy
   subst hy
   rw [hbn,hb1]
   exact ⟨key (ModO.blw hm b2),R,fun j hj=>(M6h.sh (x:=hdP x) (ModO.m6 hm R) hj).1.2⟩
  ·have hlt:=lget_lt hy
   rw [List.length_append,hl] at hlt
   simp at hlt
   rw [List.getElem?_append_left (by omega)] at hy
   obtain ⟨q1,q2,q3⟩:=H2.m i y hy
   rw [hb0 i (by omega)]
   refine ⟨key q1,q2,fun j hj=>?_⟩
   have:=q3 j hj
   by_cases e2:i+1=n
   ·rw [e2,hbn];rw [e2] at this;omega
   ·rw [hb0 (i+1) (by omega)];exact this
 ·rw [List.length_append,hl] at hk
  simp at hk
  have s1:=b1.size
  unfold bup
  by_cases c1:k≤n
  ·rw [if_pos (by omega),if_pos c1]
   by_cases c2:k=n
   ·rw [if_pos c2]
    split
    ·exact Nat.le_refl _
    ·have:=mono i n (by omega) (Nat.le_refl _);omega
   ·rw [if_neg c2,if_neg (by omega)]
    exact mono i k hik (by omega)
  ·rw [if_neg c1]
   split
   ·split
    ·exact s1
    ·have:=mono i n (by omega) (Nat.le_refl _);omega
   ·exact Nat.le_refl _
 ·have lo:=H.lo
  unfold bup
  rw [if_pos (Nat.zero_le _)]
  split
  ·have:=mono 0 n (Nat.zero_le _) (Nat.le_refl _);omega
  ·exact lo
 ·rw [List.length_append,hl]
  show bup β n W.heap.size w1.heap.size (n+1)≤_
  rw [hb1]
  have:=b2.size
  have:=hgr.size
  omega
def pcd (zss:List (List Int))(i:Nat):Int:=(prs (zss.getD i [])).1
def pal (zss:List (List Int))(n:Nat):List PMod:=(List.range n).map fun i=>pOf (zss.getD i [])
theorem prs_z {zs:List Int}(h:(prs zs).1=0):∃ P,prs zs=(0,some P):=by
 unfold prs at h ⊢
 split at h
 ·simp at h
 rename_i c1
 rw [if_neg c1]
 split at h
 ·simp at h
 rename_i c2
 rw [if_neg c2]
 cases e:pMod (zs.drop 2) with
 | none=>rw [e] at h;simp at h
 | some x=>
   rw [e] at h
   dsimp only at h ⊢
   split at h
   ·simp at h
   rename_i c3
   rw [if_neg c3]
   split at h
   ·have hr:=mdo_range x.1.nm x.1.tz.length x.1.tz x.1.bl.length (bkOf x.1.bl) x.1.dz.length x.1.bss x.1.rz.length x.1.rz x.1.ss.length x.1.ss x.1.es.length x.1.es
    have hr:0≤mdoP x.1∧mdoP x.1≤6:=hr
    dsimp only at h
    omega
   ·rename_i c4
    rw [if_neg c4]
    exact ⟨x.1,rfl⟩
theorem prs_ok {zs:List Int}(hz:Byt zs)(h:(prs zs).1=0):∃ P,prs zs=(0,some P)∧pOf zs=P∧PmR P:=by
 obtain ⟨P,e2⟩:=prs_z h
 obtain ⟨_,_,r,hr⟩:=prs_some e2
 exact ⟨P,e2,by unfold pOf;rw [e2];rfl,(pm_of (fun z hz'=>hz z (List.mem_of_mem_drop hz')) hr).1⟩
theorem prs_no {zs:List Int}(h:(prs zs).1≠0):prs zs=((prs zs).1,none):=by
 cases e:(prs zs).2 with
 | none=>rw [← e]
 | some P=>
   have e2:prs zs=((prs zs).1,some P):=by rw [← e]
   exact absurd (prs_some e2).1 h
theorem omp_nil (W:World)(base:Nat)(hb:base≤W.heap.size):OMp W base (.slice none 0 0) [] (fun _=>W.heap.size):=⟨og_nil _ _ _ _ _,fun i x hx=>by simp at hx,fun _ _ _ _=>Nat.le_refl _,hb,Nat.le_refl _⟩
def PalP (w:World)(zss:List (List Int))(n:Nat)(e:Ending)(w':World):Prop:=Below w.heap.size w w'∧((∃ i,i<n∧pcd zss i≠0∧(∀ k,k<i→pcd zss k=0)∧e=.returned (.tuple #[.slice none 0 0,.int .i64 (pcd zss i),.int .i64 (i:Nat)]))∨((∀ i,i<n→pcd zss i=0)∧∃ a cap L β,e=.returned (.tuple #[.slice a n cap,.int .i64 0,.int .i64 0])∧OMp w' w.heap.size (.slice a n cap) L β∧L.map (fun x=>x.1)=pal zss n))
def zsL (bl:List Bk):List (List Int):=bl.map fun B=>B.2.2.2
theorem zsL_at {bl:List Bk}{i:Nat}(hi:i<bl.length):(zsL bl).getD i []=(bl.getD i zB).2.2.2:=by simp [zsL,List.getD_eq_getElem?_getD,hi]
theorem pal_succ (zss:List (List Int))(n:Nat):pal zss (n+1)=pal zss n++[pOf (zss.getD n [])]:=by simp [pal,List.range_succ]
structure Img (W:World)(g n:Nat)(gs:List Nat)(bl:List Bk):Prop where
 b:BBS W (some ⟨g,0,none⟩) n n (reb gs bl)
 l:bl.length=n
 lt:∀ i,i<n→gs.getD i 0<W.heap.size
 z:∀ i,i<n→Byt (bl.getD i zB).2.2.2∧(bl.getD i zB).2.1≤1048576
theorem Img.below {W W':World}{g n:Nat}{gs:List Nat}{bl:List Bk}(h:Img W g n gs bl)(hb:Below W.heap.size W W'):Img W' g n gs bl:=⟨h.b.below hb,h.l,fun i hi=>Nat.lt_of_lt_of_le (h.lt i hi) hb.size,h.z⟩
theorem Img.at {W:World}{g n:Nat}{gs:List Nat}{bl:List Bk}(h:Img W g n gs bl)(i:Nat)(hi:i<n):W.cell? ⟨g,i,none⟩=some (.slice (some ⟨gs.getD i 0,0,none⟩) (bl.getD i zB).2.1 (bl.getD i zB).2.1)∧BS W (some ⟨gs.getD i 0,0,none⟩) (bl.getD i zB).2.1 (bl.getD i zB).2.1 (bl.getD i zB).2.2.2:=by
 have h1:=h.b.at i hi
 have h2:=h.b.2.2.2.1 i hi
 rw [reb_at _ _ _ (by rw [h.l];exact hi)] at h1 h2
 rw [Nat.zero_add] at h1
 exact ⟨h1,h2⟩
theorem parseAll_any (g n:Nat)(gs:List Nat)(bl:List Bk)(w:World)(H:Img w g n gs bl)(hn:n≤4):
 Calls Tryz.prog 75 #[.slice (some ⟨g,0,none⟩) n n] w (PalP w (zsL bl) n):=by
 obtain ⟨iM,hiM,hz0,hz1,hz2⟩:=info_parts infoM
 have HH:=hide H
 clear H
 go_enter Tryz.func75,Tryz.ntmps75
 go_wp2
 go_loopw [5,12] (fun v i wr=>∃ j:Nat,j≤n∧i=.int .i64 j∧(∀ k,k<j→pcd (zsL bl) k=0)∧∃ L β,OMp wr w.heap.size v L β∧L.map (fun x=>x.1)=pal (zsL bl) j∧Below w.heap.size w wr) (fun _ i _=>n - (intOf i).toNat)
 case atStart=>exact ⟨0,Nat.zero_le _,rfl,fun k hk=>absurd hk (Nat.not_lt_zero _),[],_,omp_nil w w.heap.size (Nat.le_refl _),rfl,Below.refl _ _⟩
 case round=>
  obtain ⟨j,hj,rfl,hk,L,β,O,hL,B⟩:=hrel
  have hl:L.length=j:=by have:=congrArg List.length hL;simpa [pal] using this
  obtain ⟨av,cv,rfl⟩:=og_shape O.o
  rw [hl] at O ⊢
  by_cases hlt:j<n
  ·have hlt':(j:Int)<(n:Int):=by omega
   have I:=HH.out.below B
   obtain ⟨c0,b0⟩:=I.at j hlt
   have l0:=I.lt j hlt
   obtain ⟨z1,z2⟩:=I.z j hlt
   have hzj:=zsL_at (bl:=bl) (i:=j) (by rw [I.l];exact hlt)
   have CP:=hide (iParseModule_any (gs.getD j 0) (bl.getD j zB).2.1 (bl.getD j zB).2.1 (bl.getD j zB).2.2.2 wr b0 z2 l0)
   have hpc:pcd (zsL bl) j=(prs (bl.getD j zB).2.2.2).1:=by unfold pcd;rw [hzj]
   have HPO:=hide (show pal (zsL bl) (j+1)=pal (zsL bl) j++[pOf (bl.getD j zB).2.2.2] by rw [pal_succ,hzj])
   clear I b0 l0 z2 hzj
   generalize (bl.getD j zB).2.2.2=zs at *
   generalize (bl.getD j zB).2.1=zn at *
   generalize gs.getD j 0=gj at *
   have HO:=hide (And.intro O (And.intro hL B))
   have HK:=hide (And.intro hk hpc)
   have HBy:=hide z1
   clear O hL B hk hpc z1
   go_wp2_with fail
   refine CP.out.mono ?_
   intro e w1 hP
   by_cases hz:(prs zs).1=0
   ·obtain ⟨P,e1,e2,R⟩:=prs_ok HBy.out hz
    unfold PaPost at hP
    rw [e1] at hP
    obtain ⟨b1,a1,d1,a2,d2,bl',a3,d3,a5,d5,a6,d6,a7,d7,rfl,mo⟩:=hP
    obtain ⟨w2,hw2⟩:∃ w2,w2=w1.alloc (.cells #[.string P.nm,.slice a1 P.tz.length d1,.slice a2 bl'.length d2,.slice a3 P.dz.length d3,.int .i64 P.bss,.slice a5 P.rz.length d5,.slice a6 P.ss.length d6,.slice a7 P.es.length d7] 104):=⟨_,rfl⟩
    have b2:Below w1.heap.size w1 w2:=by rw [hw2];exact (Below.refl _ _).alloc (Nat.le_refl _) _
    have k2:Blk w2 w1.heap.size #[.string P.nm,.slice a1 P.tz.length d1,.slice a2 bl'.length d2,.slice a3 P.dz.length d3,.int .i64 P.bss,.slice a5 P.rz.length d5,.slice a6 P.ss.length d6,.slice a7 P.es.length d7] 104:=by rw [hw2];exact Blk.new _ _ _
    have b3:Below w2.heap.size w2 (w2.alloc (.cells #[.string P.nm,.slice a1 P.tz.length d1,.slice a2 bl'.length d2,.slice a3 P.dz.length d3,.int .i64 P.bss,.slice a5 P.rz.length d5,.slice a6 P.ss.length d6,.slice a7 P.es.length d7] 104)):=(Below.refl _ _).alloc (Nat.le_refl _) _
    have b23:=b2.trans (b3.mono b2.size)
    obtain ⟨O,hL,B⟩:=HO.out
    have B1:=B.trans (b1.mono B.size)
    have hs:=Nat.le_trans B1.size (Nat.le_trans b2.size b3.size)
    have HOW:=hide (show (w2.alloc (.cells #[.string P.nm,.slice a1 P.tz.length d1,.slice a2 bl'.length d2,.slice a3 P.dz.length d3,.int .i64 P.bss,.slice a5 P.rz.length d5,.slice a6 P.ss.length d6,.slice a7 P.es.length d7] 104)).ownsRow w.heap.size 104 8 (.slice av j cv) j (L.flatMap clB) by
     have o:=(O.below (b1.trans (b23.mono b1.size))).o
     unfold OG at o
     rw [hl] at o
     exact o)
    have HNW:=hide (cells_new w2 #[.string P.nm,.slice a1 P.tz.length d1,.slice a2 bl'.length d2,.slice a3 P.dz.length d3,.int .i64 P.bss,.slice a5 P.rz.length d5,.slice a6 P.ss.length d6,.slice a7 P.es.length d7] 104 (clB (P,(⟨a1,d1,a2,d2,bl',a3,d3,a5,d5,a6,d6,a7,d7⟩:Mb))) rfl)
    have HPU:=hide (fun (v':Value) (w4:World) hown hgr=>And.intro (O.push (x:=(P,(⟨a1,d1,a2,d2,bl',a3,d3,a5,d5,a6,d6,a7,d7⟩:Mb))) (v':=v') (w4:=w4) hl b1 mo R b23 hown hgr) (show Below w.heap.size w w4 from below_turn (B1.trans (b23.mono B1.size)) (S:=fun q=>(Value.slice av j cv).ownBlock=some q) ⟨hgr.os,hgr.tape,hgr.output,hgr.size,fun q hq hs=>hgr.block q hq (fun e=>hs e.symm)⟩ (fun q hq=>(O.o.lt q hq).1) hs))
    have HW2:=hide hw2
    obtain ⟨q0,q1,q2,q3,q4,q5,q6,q7⟩:=Blk.eight' k2
    have HLL:=hide hL
    clear hw2 b2 k2 b3 b23 O hL B B1 b1 mo HO CP
    unfold modV
    dsimp only
    go_wp2_with (first | (at_builtin;refine wpList_append_own _ rfl _ _ 31 rfl w.heap.size 104 iM _ 8 _ Tryz.underlying31 hiM hz0 hz1 hz2 rfl (by decide) (.slice av j cv) j (L.flatMap clB) rfl HOW.out ⟨w2.heap.size,0,none⟩ 1 1 (clB (P,(⟨a1,d1,a2,d2,bl',a3,d3,a5,d5,a6,d6,a7,d7⟩:Mb))) rfl rfl HNW.out (by intro u hu;simp [clB,clH,hdP] at hu;rcases hu with rfl | rfl | rfl | rfl | rfl | rfl | rfl | rfl <;> rfl) (by unfold maxLen;omega) (by omega) (by omega) ?_;intro v' w4 hown hgr _) | rw [← HW2.out])
    have HP:=hide (HPU.out v' w4 hown hgr)
    clear hown hgr HPU HOW HNW q0 q1 q2 q3 q4 q5 q6 q7
    go_wp2
    go_roundw
    case rel=>exact ⟨j+1,by omega,by go_num,fun k hk=>by
     by_cases e:k=j
     ·subst e;rw [HK.out.2];exact hz
     ·exact HK.out.1 k (by omega),_,_,HP.out.1,by rw [List.map_append,HLL.out,HPO.out,e2];rfl,HP.out.2⟩
    case measure=>simp [intOf];omega
   ·unfold PaPost at hP
    rw [prs_no hz] at hP
    obtain ⟨b1,rfl⟩:=hP
    have HE:=hide (HO.out.2.2.trans (b1.mono HO.out.2.2.size))
    have hz':¬ (prs zs).1=0:=hz
    have HC:=hide (And.intro HK.out.1 HK.out.2)
    clear HO CP b1 HK
    dsimp only
    unfold z8
    generalize (prs zs).1=cd at *
    go_wp2
    go_ret3
    exact ⟨HE.out.alloc HE.out.size _,.inl ⟨j,hlt,by rw [HC.out.2];exact hz',HC.out.1,by rw [HC.out.2];rfl⟩⟩
  ·have e:Hid (j=n):=by show j=n;omega
   have HX:=hide (And.intro O (And.intro hL B))
   have HKK:=hide hk
   clear O hL B hk
   go_wp2
   go_ret3
   refine ⟨HX.out.2.2,.inr ⟨fun i hi=>HKK.out i (by rw [e.out];exact hi),av,cv,L,β,?_,?_,?_⟩⟩
   ·rw [← e.out];rfl
   ·have q:=HX.out.1;rw [e.out] at q;exact q
   ·have q:=HX.out.2.1;rw [e.out] at q;exact q
structure Mn where
 ma:Option Addr
 mn:Nat
 mc:Nat
 ms:List Md
 cs:Int
 cw:Int
 ck:Int
 cd:Int
 pc:Int
 ka:Option Addr
 kn:Nat
 kc:Nat
 kz:List Int
 fa:Option Addr
 fn:Nat
 fc:Nat
 fz:List Int
 ra:Option Addr
 rn:Nat
 rc:Nat
 rz:List Int
 oa:Option Addr
 on:Nat
 oc:Nat
 oz:List Int
 md:Int
 bk:Int
 la:Option Addr
 ln:Nat
 lc:Nat
 lz:List SlT
 ha:Option Addr
 hn:Nat
 hc:Nat
 hz:List FrT
 tn:Int
theorem Blk.mc {w:World}{b:Nat}{t:TypeId}{v0 v1 v2 v3 v4 v5 v6 v7 v8 v9 v10 v11 v12 v13 v14:Value}(h:Blk w b #[v0,v1,v2,v3,v4,v5,v6,v7,v8,v9,v10,v11,v12,v13,v14] t):w.cell? ⟨b,0,none⟩=some v0∧w.cell? ⟨b,1,none⟩=some v1∧w.cell? ⟨b,2,none⟩=some v2∧w.cell? ⟨b,3,none⟩=some v3∧w.cell? ⟨b,4,none⟩=some v4∧w.cell? ⟨b,5,none⟩=some v5∧w.cell? ⟨b,6,none⟩=some v6∧w.cell? ⟨b,7,none⟩=some v7∧w.cell? ⟨b,8,none⟩=some v8∧w.cell? ⟨b,9,none⟩=some v9∧w.cell? ⟨b,10,none⟩=some v10∧w.cell? ⟨b,11,none⟩=some v11∧w.cell? ⟨b,12,none⟩=some v12∧w.cell? ⟨b,13,none⟩=some v13∧w.cell? ⟨b,14,none⟩=some v14:=⟨h.cell 0,h.cell 1,h.cell 2,h.cell 3,h.cell 4,h.cell 5,h.cell 6,h.cell 7,h.cell 8,h.cell 9,h.cell 10,h.cell 11,h.cell 12,h.cell 13,h.cell 14⟩
theorem layoutOk_any (a:Option Addr)(n cap:Nat)(ms:List Md)(L:Lay)(a0:Option Addr)(c0:Nat)(xs:List PB)(a2:Option Addr)(c2:Nat)(a5:Option Addr)(c5:Nat)(ts:List TB)(w:World)(h:MSD w a n cap ms)(hL:LyT w L a0 c0 xs a2 c2 a5 c5 ts):
 Calls Tryz.prog 56 #[.slice a n cap,.agg #[.slice a0 xs.length c0,.int .i64 L.stack,.slice a2 L.slots.length c2,.int .i64 L.flash,.int .i64 L.ram,.slice a5 ts.length c5]] w fun e w'=>e=.returned (.bool (decide (Lok (pmS ms) L)))∧Below w.heap.size w w':=by
 obtain ⟨r,hr⟩:∃ r,r=decide (Lok (pmS ms) L):=⟨_,rfl⟩
 rw [← hr]
 replace hr:r=true ↔ Lok (pmS ms) L:=by rw [hr];simp
 unfold Lok at hr
 have HLB:=hide (layB_lk (pmS ms) (L.slots.length:Int) (cfW L) (cfK L) 0)
 have HLV:=hide (lkL_v (pmS ms) (L.slots.length:Int) (cfW L) (cfK L) 0)
 have HIM:=hide (fun (W:World) (hb:Below w.heap.size w W)=>by
  have:=iLink_any a n cap ms (L.slots.length:Int) (cfW L) (cfK L) 0 W (h.below hb)
  unfold LkM layV at this
  exact this)
 generalize lkL (pmS ms) (L.slots.length:Int) (cfW L) (cfK L) 0=LY at *
 generalize lkc (pmS ms) (L.slots.length:Int) (cfW L) (cfK L) 0=C at *
 have HR:=hide hr
 have HCF:=hide (fun (W:World) (hb:Below w.heap.size w W)=>configOf_any L a0 c0 xs a2 c2 a5 c5 ts W (hL.below hb))
 have B0:Below w.heap.size w (w.alloc (.cells #[.slice a0 xs.length c0,.int .i64 L.stack,.slice a2 L.slots.length c2,.int .i64 L.flash,.int .i64 L.ram,.slice a5 ts.length c5] 36)):=(Below.refl _ _).alloc (Nat.le_refl _) _
 have k0:=Blk.new w #[.slice a0 xs.length c0,.int .i64 L.stack,.slice a2 L.slots.length c2,.int .i64 L.flash,.int .i64 L.ram,.slice a5 ts.length c5] 36
 have HL:=hide hL
 clear h hL hr
 go_enter Tryz.func56,Tryz.ntmps56
 go_wp2_with fail
 refine (HCF.out _ B0).mono ?_
 rintro e w1 ⟨rfl,hb1⟩
 have B1:=B0.trans (hb1.mono B0.size)
 have k1:=k0.below hb1
 clear hb1 B0 k0
 go_wp2_with fail
 refine (HIM.out _ B1).mono ?_
 rintro e w2 ⟨hb2,b0,d0,ys,b2,d2,b5,d5,us,rfl,O2⟩
 have hA:Below w2.heap.size w2 (w2.alloc (.cells #[.slice b0 ys.length d0,.int .i64 LY.stack,.slice b2 LY.slots.length d2,.int .i64 LY.flash,.int .i64 LY.ram,.slice b5 us.length d5] 36)):=(Below.refl _ _).alloc (Nat.le_refl _) _
 have kt:=Blk.new w2 #[.slice b0 ys.length d0,.int .i64 LY.stack,.slice b2 LY.slots.length d2,.int .i64 LY.flash,.int .i64 LY.ram,.slice b5 us.length d5] 36
 have B2:=B1.trans (hb2.mono B1.size)
 have B3:=B2.trans (hA.mono B2.size)
 have k3:=(k1.below hb2).below hA
 have O3:=O2.below' hA
 have HSM:=hide (sameLayout_any LY b0 d0 ys b2 d2 b5 d5 us L a0 c0 xs a2 c2 a5 c5 ts _ (O3.lyt HLB.out.r HLV.out) (HL.out.below B3))
 have HB3:=hide B3
 obtain ⟨p0,p1,p2,p3,p4,p5⟩:=k3.ly6
 obtain ⟨q0,q1,q2,q3,q4,q5⟩:=kt.ly6
 clear hb2 O2 O3 hA B1 B2 B3 k1 k3 kt
 by_cases hC:C=0
 ·have g:(C == 0)=true:=by simpa using hC
  have HV:=hide (show decide (LY=L)=r by rw [Bool.eq_iff_iff,HR.out];simp [hC])
  rw [HV.out] at HSM
  clear hC HR
  go_wp2_with fail
  refine HSM.out.mono ?_
  rintro e w4 ⟨rfl,hb4⟩
  have HB4:=hide (HB3.out.trans (hb4.mono HB3.out.size))
  clear hb4
  cases r
  all_goals
   go_wp2
   go_ret
   exact ⟨rfl,HB4.out⟩
 ·have g:(C == 0)=false:=by simpa using hC
  have HV:=hide (show r=false by cases r;rfl;exact absurd (HR.out.1 rfl).1 hC)
  clear hC HR
  go_wp2
  go_ret
  exact ⟨ret_bool HV.out.symm,HB3.out⟩
def z15:Array Value:=#[.slice none 0 0,.int .i64 0,.int .i64 0,.int .i64 0,.int .i64 0,.int .i64 0,.slice none 0 0,.slice none 0 0,.slice none 0 0,.slice none 0 0,.int .i64 0,.int .i64 0,.slice none 0 0,.slice none 0 0,.int .i64 0]
def st15 (W:World)(k:Nat)(v0 v1 v2 v3 v4 v5 v6 v7 v8 v9 v10 v11 v12 v13 v14:Value):World:=((((((((((((((W.setCell ⟨k,0,none⟩ v0).setCell ⟨k,1,none⟩ v1).setCell ⟨k,2,none⟩ v2).setCell ⟨k,3,none⟩ v3).setCell ⟨k,4,none⟩ v4).setCell ⟨k,5,none⟩ v5).setCell ⟨k,6,none⟩ v6).setCell ⟨k,7,none⟩ v7).setCell ⟨k,8,none⟩ v8).setCell ⟨k,9,none⟩ v9).setCell ⟨k,10,none⟩ v10).setCell ⟨k,11,none⟩ v11).setCell ⟨k,12,none⟩ v12).setCell ⟨k,13,none⟩ v13).setCell ⟨k,14,none⟩ v14
theorem turn_st15 (W:World)(k:Nat)(v0 v1 v2 v3 v4 v5 v6 v7 v8 v9 v10 v11 v12 v13 v14:Value):Turn (fun j=>j=k) W (st15 W k v0 v1 v2 v3 v4 v5 v6 v7 v8 v9 v10 v11 v12 v13 v14):=((((((((((((((turn_set W k 0 v0).trans (turn_set _ k 1 v1)).trans (turn_set _ k 2 v2)).trans (turn_set _ k 3 v3)).trans (turn_set _ k 4 v4)).trans (turn_set _ k 5 v5)).trans (turn_set _ k 6 v6)).trans (turn_set _ k 7 v7)).trans (turn_set _ k 8 v8)).trans (turn_set _ k 9 v9)).trans (turn_set _ k 10 v10)).trans (turn_set _ k 11 v11)).trans (turn_set _ k 12 v12)).trans (turn_set _ k 13 v13)).trans (turn_set _ k 14 v14)
theorem blk_st15 {W:World}{k:Nat}{t:TypeId}(h:Blk W k z15 t)(v0 v1 v2 v3 v4 v5 v6 v7 v8 v9 v10 v11 v12 v13 v14:Value):Blk (st15 W k v0 v1 v2 v3 v4 v5 v6 v7 v8 v9 v10 v11 v12 v13 v14) k #[v0,v1,v2,v3,v4,v5,v6,v7,v8,v9,v10,v11,v12,v13,v14] t:=by
 have k:=((((((((((((((h.set 0 v0).set 1 v1).set 2 v2).set 3 v3).set 4 v4).set 5 v5).set 6 v6).set 7 v7).set 8 v8).set 9 v9).set 10 v10).set 11 v11).set 12 v12).set 13 v13).set 14 v14
 have e:((((((((((((((z15.setIfInBounds 0 v0).setIfInBounds 1 v1).setIfInBounds 2 v2).setIfInBounds 3 v3).setIfInBounds 4 v4).setIfInBounds 5 v5).setIfInBounds 6 v6).setIfInBounds 7 v7).setIfInBounds 8 v8).setIfInBounds 9 v9).setIfInBounds 10 v10).setIfInBounds 11 v11).setIfInBounds 12 v12).setIfInBounds 13 v13).setIfInBounds 14 v14=#[v0,v1,v2,v3,v4,v5,v6,v7,v8,v9,v10,v11,v12,v13,v14]:=by unfold z15;simp
 rw [e] at k
 exact k
theorem nm_end {W:World}{q:Nat}(k1:Blk W q z15 54)(v0 v1 v2 v3 v4 v5 v6 v7 v8 v9 v10 v11 v12 v13 v14:Value)(Q:Ending→World→Prop)(tmps:Array Value)(h6:tmps[6]?=some (.pointer (some ⟨q,0,none⟩)))(hQ:Q (.returned (.agg #[v0,v1,v2,v3,v4,v5,v6,v7,v8,v9,v10,v11,v12,v13,v14])) (st15 W q v0 v1 v2 v3 v4 v5 v6 v7 v8 v9 v10 v11 v12 v13 v14).drew):
 bodyPost Tryz.prog Tryz.f77 Q Exit.ret ⟨tmps,[]⟩ (st15 W q v0 v1 v2 v3 v4 v5 v6 v7 v8 v9 v10 v11 v12 v13 v14).drew:=by
 obtain ⟨t0,t1,t2,t3,t4,t5,t6,t7,t8,t9,t10,t11,t12,t13,t14⟩:=((blk_st15 k1 v0 v1 v2 v3 v4 v5 v6 v7 v8 v9 v10 v11 v12 v13 v14).below (Below.refl _ _).drew).mc
 refine bodyPost_ret_by (v:=(.agg #[v0,v1,v2,v3,v4,v5,v6,v7,v8,v9,v10,v11,v12,v13,v14])) ?_ rfl hQ
 simp [results,Tryz.results77,go_sem,h6,t0,t1,t2,t3,t4,t5,t6,t7,t8,t9,t10,t11,t12,t13,t14]
theorem li_end {W:World}{q:Nat}{c d:Int}(k1:Blk W q z15 54)(v0 v1 v2 v3 v4 v5 v6 v7 v8 v9 v10 v11 v12 v13 v14:Value)(Q:Ending→World→Prop)(tmps:Array Value)(h4:tmps[4]?=some (.pointer (some ⟨q,0,none⟩)))(h5:tmps[5]?=some (.int .i64 c))(h6:tmps[6]?=some (.int .i64 d))(hQ:Q (.returned (.tuple #[.agg #[v0,v1,v2,v3,v4,v5,v6,v7,v8,v9,v10,v11,v12,v13,v14],.int .i64 c,.int .i64 d])) (st15 W q v0 v1 v2 v3 v4 v5 v6 v7 v8 v9 v10 v11 v12 v13 v14)):
 bodyPost Tryz.prog Tryz.f19 Q Exit.ret ⟨tmps,[]⟩ (st15 W q v0 v1 v2 v3 v4 v5 v6 v7 v8 v9 v10 v11 v12 v13 v14):=by
 obtain ⟨t0,t1,t2,t3,t4,t5,t6,t7,t8,t9,t10,t11,t12,t13,t14⟩:=(blk_st15 k1 v0 v1 v2 v3 v4 v5 v6 v7 v8 v9 v10 v11 v12 v13 v14).mc
 refine bodyPost_ret_by (v:=(.tuple #[.agg #[v0,v1,v2,v3,v4,v5,v6,v7,v8,v9,v10,v11,v12,v13,v14],.int .i64 c,.int .i64 d])) ?_ rfl hQ
 simp [results,Tryz.results19,go_sem,h4,h5,h6,t0,t1,t2,t3,t4,t5,t6,t7,t8,t9,t10,t11,t12,t13,t14]
theorem ls_end {W:World}{q:Nat}{c d:Int}(k1:Blk W q z15 54)(v0 v1 v2 v3 v4 v5 v6 v7 v8 v9 v10 v11 v12 v13 v14:Value)(Q:Ending→World→Prop)(tmps:Array Value)(h4:tmps[4]?=some (.pointer (some ⟨q,0,none⟩)))(h5:tmps[5]?=some (.int .i64 c))(h6:tmps[6]?=some (.int .i64 d))(hQ:Q (.returned (.tuple #[.agg #[v0,v1,v2,v3,v4,v5,v6,v7,v8,v9,v10,v11,v12,v13,v14],.int .i64 c,.int .i64 d])) (st15 W q v0 v1 v2 v3 v4 v5 v6 v7 v8 v9 v10 v11 v12 v13 v14)):
 bodyPost Tryz.prog Tryz.f18 Q Exit.ret ⟨tmps,[]⟩ (st15 W q v0 v1 v2 v3 v4 v5 v6 v7 v8 v9 v10 v11 v12 v13 v14):=by
 obtain ⟨t0,t1,t2,t3,t4,t5,t6,t7,t8,t9,t10,t11,t12,t13,t14⟩:=(blk_st15 k1 v0 v1 v2 v3 v4 v5 v6 v7 v8 v9 v10 v11 v12 v13 v14).mc
 refine bodyPost_ret_by (v:=(.tuple #[.agg #[v0,v1,v2,v3,v4,v5,v6,v7,v8,v9,v10,v11,v12,v13,v14],.int .i64 c,.int .i64 d])) ?_ rfl hQ
 simp [results,Tryz.results18,go_sem,h4,h5,h6,t0,t1,t2,t3,t4,t5,t6,t7,t8,t9,t10,t11,t12,t13,t14]
def sl0 (n:Nat):Array Value:=madeCells (Value.cells (.agg #[.bool false,.int .i64 0,.int .i64 0,.int .i64 0])) (n * 4)
def in0:Array Value:=madeCells (Value.cells (.int .i64 0)) (8 * 1)
theorem own_mk {W:World}{base g n sz:Nat}{t:TypeId}{z:Array Value}(h:Blk W g (madeCells z (n * sz)) t)(hg:base≤g)(hn:n≤maxLen):W.ownsRow base t sz (.slice (some ⟨g,0,none⟩) n n) n (madeCells z (n * sz)).toList:=
 ⟨by rw [Array.length_toList,size_madeCells],.inr ⟨g,n,_,rfl,hg,h,Nat.le_refl _,hn,size_madeCells _ _,by rw [List.take_of_length_le (by rw [Array.length_toList,size_madeCells];exact Nat.le_refl _)]⟩⟩
theorem makeSl (n:Nat)(hn:n≤4)(W:World):(Instr.makeSlice 51 (.int .i64 (n:Int)) (.int .i64 (n:Int))).run Tryz.prog W=.ok (.slice (some ⟨W.heap.size,0,none⟩) n n) (W.alloc (.cells (sl0 n) 134)):=by
 obtain ⟨i,hi,hz0,hz1,hz2⟩:=info_parts infoSl
 have q:=run_make (P:=Tryz.prog) W 51 134 i _ Tryz.underlying51 hi hz0 .i64 .i64 (n:Int) (n:Int) (by omega) (Int.le_refl _) (by rw [hz2];omega) (by omega)
 rw [hz1,Int.toNat_natCast] at q
 exact q
theorem makeI8 (W:World):(Instr.makeSlice 24 (.int .i64 8) (.int .i64 8)).run Tryz.prog W=.ok (.slice (some ⟨W.heap.size,0,none⟩) 8 8) (W.alloc (.cells in0 3)):=by
 obtain ⟨i,hi,hz0,hz1,hz2⟩:=info_parts infoI
 have q:=run_make (P:=Tryz.prog) W 24 3 i _ Tryz.underlying24 hi hz0 .i64 .i64 8 8 (by omega) (Int.le_refl _) (by rw [hz2];omega) (by omega)
 rw [hz1] at q
 exact q
theorem in0_oi {W:World}{g base:Nat}(h:Blk W g in0 3)(hg:base≤g):OI W base (.slice (some ⟨g,0,none⟩) 8 8) (List.replicate 8 0):=
 og_oi ((rowF_made (f:=clI) (0:Int) (.int .i64 0) rfl rfl (own_mk (n:=8) (sz:=1) h hg (by decide))).og (fun _=>rfl) (show 0<1 by decide) hg (by decide) (List.length_replicate ..) 0 (fun i hi=>by rw [List.getD_eq_getElem?_getD,List.getElem?_replicate,if_pos hi];rfl)) (fun z hz=>by rw [List.eq_of_mem_replicate hz];unfold wfi;decide)
theorem sl0_og {W:World}{g base n:Nat}(h:Blk W g (sl0 n) 134)(hg:base≤g)(hn:n≤4):OG 134 4 clSl W base (.slice (some ⟨g,0,none⟩) n n) (List.replicate n zSl):=
 (rowF_made (f:=clSl) zSl (.agg #[.bool false,.int .i64 0,.int .i64 0,.int .i64 0]) rfl rfl (own_mk (sz:=4) h hg (by unfold maxLen;omega))).og (fun _=>rfl) (show 0<4 by decide) hg (by unfold maxLen;omega) (List.length_replicate ..) zSl (fun i hi=>by rw [List.getD_eq_getElem?_getD,List.getElem?_replicate,if_pos hi];rfl)
end Go.Proofs.YtngdgogjlpjjpaeGreat
