import Derived.Test.YtncccmeomcaabaaGreatR32
set_option linter.all false
namespace Go.Proofs.YtncccmeomcaabaaGreat
open Go.RowKit Classical
open Go.Proofs.Tryz
set_option maxRecDepth 100000
variable {L:Lay}{a:qO}{b s:Int}{cap n:Nat}{ms:List Md}
theorem zY {w:qw}(h:MSD w a n cap ms)(m b:Int):0<=pcq (aE ms) m b ↔ (0<=m/\m<(n:Int))/\(b=-1\/(0<=b/\b<((ms.getD m.toNat aK).bn:Int))):=by
 have hn:=h.s.1;rw [<- eM h];unfold pcm;rw [hn];by_cases c:0<=m/\m<(n:Int)
 .rw [if_pos c];unfold pcn;by_cases c1:b=-1
  .rw [if_pos c1];exact ⟨fun _=>⟨c,.inl c1⟩,fun _=>by omega⟩
  .rw [if_neg c1];by_cases c2:0<=b/\b<((ms.getD m.toNat aK).bn:Int)
   .rw [if_pos c2];exact ⟨fun _=>⟨c,.inr c2⟩,fun _=>by omega⟩
   .rw [if_neg c2];exact ⟨fun h=>absurd h (by decide),fun h=>absurd h.2 (fun h=>h.elim c1 c2)⟩
 .rw [if_neg c];exact ⟨fun h=>absurd h (by decide),fun h=>absurd h.1 c⟩
theorem aNh (L:Lay):sOk L (-1) (-1):=by unfold sOk;rw [if_pos (.inl rfl)]
theorem aOe (h:sOk L (-1) s):s=-1:=by unfold sOk at h;rwa [if_pos (.inl rfl)] at h
theorem aNi (b:Int)(h:L.slots=[]):sOk L b (-1):=by unfold sOk;rw [if_pos (.inr h)]
theorem aOf (h:L.slots=[])(hs:sOk L b s):s=-1:=by unfold sOk at hs;rwa [if_pos (.inr h)] at hs
theorem aPc (hb:b≠-1)(h:¬ L.slots=[]):sOk L b s ↔ 0<=s/\s<(L.slots.length:Int):=by unfold sOk;rw [if_neg (fun c=>c.elim hb h)]
def F2 (ps:List PMod)(L:Lay)(m b:Int):Prop:=∀ s:Int,sOk L b s->(plR ps L m b s).length<=8
theorem aGf {w:qw}(h:MSD w a n cap ms)(hk:Lok (aE ms) L)(hf:∀ m:Nat,m<n->∀ b:Int,(b=-1\/(0<=b/\b<((ms.getD m aK).bn:Int)))->F2 (aE ms) L m b):uJ (aE ms) L:=by
 refine ⟨hk,fun m b s hp hs=>?_⟩;obtain ⟨⟨h1,h2⟩,h3⟩:=(zY h m b).1 hp;have:=hf m.toNat (by omega) b h3 s hs
 rwa [Int.toNat_of_nonneg h1] at this
theorem aAx {w:qw}(h:MSD w a n cap ms){m:Int}(hm:0<=m/\m<(n:Int))(hb:b=-1\/(0<=b/\b<((ms.getD m.toNat aK).bn:Int)))(hs:sOk L b s)(hl:¬ (plR (aE ms) L m b s).length<=8):¬ uJ (aE ms) L:=fun hf=>hl (hf.2 m b s ((zY h m b).2 ⟨hm,hb⟩) hs)
set_option maxHeartbeats 4000000 in
theorem aG3 (a:qO)(n cap:Nat)(ms:List Md)(L:Lay)(a0:qO)(c0:Nat)(xs:List PB)(a2:qO)(c2:Nat)(a5:qO)(c5:Nat)(ts:List TB)(w:qw)(h:MSD w a n cap ms)(hL:LyT w L a0 c0 xs a2 c2 a5 c5 ts):
 qC 75 #[qS a n cap,.agg (qL L a0 xs.length c0 a2 L.slots.length c2 a5 ts.length c5)] w fun e w'=>∃ r:Bool,e=.returned (.bool r)/\(r=true ↔ uJ (aE ms) L)/\qY w w':=by
 obtain ⟨V,hV⟩:=eqx (w.alloc (.cells (qL L a0 xs.length c0 a2 L.slots.length c2 a5 ts.length c5) 71));have hB:qY w V:=by rw [hV];exact brf.alloc aN _
 have k0:Blk V w.heap.size (qL L a0 xs.length c0 a2 L.slots.length c2 a5 ts.length c5) 71:=by rw [hV];exact Blk.new w _ _
 have HBV:=zh hB;have HM:=zh (h.bw hB);have HL2:=zh (hL.bw hB);have HV:=zh hV;have HK:=zh k0;have hn:=h.s.1;have hmx:=h.s.2.1;have hlx:=hL.s.2.1;unfold maxLen at hmx hlx;have HKX:Zh (∀ X,qY V X->X.cell? (qR w.heap.size 0)=some (qS a0 xs.length c0)/\X.cell? (qR w.heap.size 1)=some (qI L.stack)/\X.cell? (qR w.heap.size 2)=some (qS a2 L.slots.length c2)/\X.cell? (qR w.heap.size 3)=some (qI L.flash)/\X.cell? (qR w.heap.size 4)=some (qI L.ram)/\X.cell? (qR w.heap.size 5)=some (qS a5 ts.length c5)):=fun X hz=>(HK.o.bw hz).ly6;have HX:Zh (∀ X,qY V X->qY w X):=fun X hz=>HBV.o.trans (hz.mono HBV.o.size);have HR:Zh (qC 142 #[qS a n cap,.agg (qL L a0 xs.length c0 a2 L.slots.length c2 a5 ts.length c5)] V (fun e w'=>e=.returned (.bool (decide (Lok (aE ms) L)))/\qY V w')):=tD a n cap ms L a0 c0 xs a2 c2 a5 c5 ts V HM.o HL2.o;clear hV k0 h hL hB;obtain ⟨z0,z1,z2,z3,z4,z5⟩:=HKX.o _ brf;by_cases c1:Lok (aE ms) L
 .rw [xR c1] at HR;have HC:=zh c1;have HPL:Zh (∀ X (m b s:Int),qY V X->(0<=m/\m<(n:Int))->(b=-1\/(0<=b/\b<((ms.getD m.toNat aK).bn:Int)))->sOk L b s->qC 143 #[qS a n cap,.agg (qL L a0 xs.length c0 a2 L.slots.length c2 a5 ts.length c5),.agg (qT m b 0),qI s] X (fun e w'=>∃ A k c,e=.returned (qS A k c)/\k=(plR (aE ms) L m b s).length/\qY X w'/\qY V w')):=fun X m b s hz hm hb hs=>(aEg a n cap ms L a0 c0 xs a2 c2 a5 c5 ts m b 0 s X (HM.o.bw hz) (HL2.o.bw hz) c1 ((zY HM.o m b).2 ⟨hm,hb⟩) hs.fit).mono fun e w' ⟨A,k,c,he,ho,hbb⟩=>⟨A,k,c,he,(eZ ho).1.symm,hbb,hz.trans (hbb.mono hz.size)⟩;clear c1;obtain ⟨l,hl⟩:=eqx (L.slots.length);rw [<- hl] at HR HPL HKX HV z2 hlx ⊢;have HLE:=zh hl;have HSE:=zh (show L.slots=[] ↔ l=0 by rw [hl];exact List.length_eq_zero_iff.symm);clear hl;go_enter func75,ntmps75
  go_wp2_with (rw [<- HV.o])
  refine HR.o.mono ?_;rintro e X1 ⟨rfl,hb1⟩;have HB1:=zh hb1;clear hb1 z0 z1 z2 z3 z4 z5 HR HV;go_wp2_with fail
  go_loopw [5] (fun i wr=>∃ m:Nat,m<=n/\i=qI m/\(∀ m':Nat,m'<m->∀ b:Int,(b=-1\/(0<=b/\b<((ms.getD m' aK).bn:Int)))->F2 (aE ms) L m' b)/\qY V wr) (qf n)
  .exact ⟨0,xC _,rfl,fun m' hm'=>absurd hm' (Nat.not_lt_zero _),HB1.o⟩
  .obtain ⟨m,hm,rfl,hF,hB⟩:=hrel;have HF:=zh hF;have HB:=zh hB;clear hF hB HB1;by_cases hlt:m<n
   .have hlt':(m:Int)<(n:Int):=by omega
    obtain ⟨gm,om,rfl,_,_,v2,_,_,_,_,_⟩:=HM.o.s.at m hlt;have hbx:(ms.getD m aK).bn<=9223372036854775807:=by have:=(HM.o.s.2.2.2.1 m hlt).b.2.1;unfold maxLen at this;omega
    obtain ⟨bn,hbn⟩:=eqx ((ms.getD m aK).bn);have HBN:=zh hbn;rw [<- hbn] at v2 hbx;clear hbn;have HP1:=zh (HPL.o wr m (-1) (-1) HB.o (by omega) (.inl rfl) (aNh L));obtain ⟨z0,z1,z2,z3,z4,z5⟩:=HKX.o _ HB.o;go_wp2_with fail
    refine HP1.o.mono ?_;rintro e X2 ⟨A,k,c,rfl,hk,_,hb2⟩;have HK2:=zh hk;have HB2:=zh hb2;clear hk hb2 HP1 z0 z1 z2 z3 z4 z5;by_cases h8:k<=8
    .have h8':(k:Int)<=8:=by omega
     have HT:Zh (F2 (aE ms) L m (-1)):=fun s hs=>by rw [aOe hs,<- HK2.o];exact h8
     go_wp2_with fail
     generalize wr=wo at *;go_loopw [6] (fun i wr=>∃ q:Nat,q<=bn/\i=qI q/\(∀ b:Int,(b=-1\/(0<=b/\b<(q:Int)))->F2 (aE ms) L m b)/\qY V wr) (qf bn)
     .exact ⟨0,xC _,rfl,fun b hb=>by rcases hb with rfl|hb;exact HT.o;omega,HB2.o⟩
     .obtain ⟨q,hq,rfl,hF2,hB3⟩:=hrel;have HF2:=zh hF2;have HB3:=zh hB3;clear hF2 hB3;have v3:=aB HB3.o v2;by_cases hq2:q<bn
      .have hq2':(q:Int)<(bn:Int):=by omega
       generalize wr=wp at *
       have HQ:=zh (show F2 (aE ms) L m (q:Int)->∀ b:Int,(b=-1\/(0<=b/\b<((q+1:Nat):Int)))->F2 (aE ms) L m b from fun h b hb=>by
        by_cases e:b=(q:Int)
        .rw [e];exact h
        .exact HF2.o b (by omega))
       obtain ⟨V3,hV3⟩:=eqx (wp.alloc (.cells (qT m q 0) 58));have bV3:qY V V3:=by rw [hV3];exact HB3.o.alloc HB3.o.size _
       have kT:Blk V3 wp.heap.size (qT m q 0) 58:=by rw [hV3];exact Blk.new _ _ _
       have HV3:=zh hV3;have HBV3:=zh bV3;have HKT:=zh kT;have v4:=aB HBV3.o v2;clear hV3 bV3 kT;obtain ⟨z0,z1,z2,z3,z4,z5⟩:=HKX.o _ HBV3.o;obtain ⟨y0,y1,y2⟩:=HKT.o.tg3;have HBQ:Zh ((q:Int)=-1\/(0<=(q:Int)/\(q:Int)<((ms.getD ((m:Int)).toNat aK).bn:Int))):=.inr ⟨by omega,by rw [xY,<- HBN.o];exact hq2'⟩;by_cases hl0:l=0
       .have HSL:=zh (HSE.o.2 hl0);have HP2:=zh (HPL.o V3 m q (-1) HBV3.o (by omega) HBQ.o (aNi _ HSL.o));subst hl0;go_wp2_with (rw [<- HV3.o])
        refine HP2.o.mono ?_;rintro e X4 ⟨A2,k2,c2',rfl,hk2,_,hb4⟩;have HK4:=zh hk2;have HB4:=zh hb4;clear hk2 hb4 HP2 z0 z1 z2 z3 z4 z5 y0 y1 y2;by_cases h82:k2<=8
        .have h82':(k2:Int)<=8:=by omega
         have HN:=zh (HQ.o (fun s hs=>by rw [aOf HSL.o hs,<- HK4.o];exact h82));go_wp2_with fail
         go_loopw [8] (fun i wr=>i=qI 0/\qY V wr) (fun _ _=>0)
         .exact ⟨rfl,HB4.o⟩
         .obtain ⟨rfl,hB5⟩:=hrel;have HB5:=zh hB5;obtain ⟨z0,z1,z2,z3,z4,z5⟩:=HKX.o _ HB5.o;clear hB5;go_wp2
          go_roundw
          .exact ⟨q+1,by omega,by go_num,HN.o,HB5.o⟩
          .simp [qf,intOf];omega
        .have h82':(8:Int)<(k2:Int):=by omega
         have HNO:=zh (aAx HM.o (m:=(m:Int)) (b:=(q:Int)) (s:=-1) (by omega) HBQ.o (aNi _ HSL.o) (by rw [<- HK4.o];exact h82));go_wp2;go_ret;exact ⟨false,rfl,by simp [HNO.o],HX.o _ HB4.o⟩
       .have hl0':((l:Int)==0)=false:=by simpa using hl0
        have HSK:Zh (∀ s:Int,sOk L (q:Int) s ↔ 0<=s/\s<(l:Int)):=fun s=>by rw [HLE.o];exact aPc (by omega) (fun e=>hl0 (HSE.o.1 e))
        go_wp2_with (rw [<- HV3.o])
        clear z0 z1 z2 z3 z4 z5 y0 y1 y2;go_loopw [8] (fun i wr=>∃ t:Nat,t<=l/\i=qI t/\(∀ s':Nat,s'<t->(plR (aE ms) L m q s').length<=8)/\Blk wr wp.heap.size (qT m q 0) 58/\qY V wr) (qf l)
        .exact ⟨0,xC _,rfl,fun s' hs'=>absurd hs' (Nat.not_lt_zero _),HKT.o,HBV3.o⟩
        .obtain ⟨t,ht,rfl,hG,kt5,hB5⟩:=hrel;have HG:=zh hG;have HK5:=zh kt5;have HB5:=zh hB5;clear hG kt5 hB5;obtain ⟨z0,z1,z2,z3,z4,z5⟩:=HKX.o _ HB5.o;obtain ⟨y0,y1,y2⟩:=HK5.o.tg3;by_cases ht2:t<l
         .have ht2':(t:Int)<(l:Int):=by omega
          have HP3:=zh (HPL.o wr m q t HB5.o (by omega) HBQ.o ((HSK.o _).2 ⟨by omega,ht2'⟩));go_wp2_with fail
          refine HP3.o.mono ?_;rintro e X6 ⟨A3,k3,c3',rfl,hk3,hbx6,hb6⟩;have HK6:=zh hk3;have HB6:=zh (xA hbx6 hb6);clear hk3 hbx6 hb6 HP3 z0 z1 z2 z3 z4 z5 y0 y1 y2;by_cases h83:k3<=8
          .have h83':(k3:Int)<=8:=by omega
           have HN:=zh (show ∀ s':Nat,s'<t+1->(plR (aE ms) L m q s').length<=8 from fun s' hs'=>by
            by_cases e:s'=t
            .rw [e,<- HK6.o];exact h83
            .exact HG.o s' (by omega))
           go_wp2
           go_roundw
           .exact ⟨t+1,by omega,by go_num,HN.o,HK5.o.bw HB6.o.1,HB6.o.2⟩
           .simp [qf,intOf];omega
          .have h83':(8:Int)<(k3:Int):=by omega
           have HNO:=zh (aAx HM.o (m:=(m:Int)) (b:=(q:Int)) (s:=(t:Int)) (by omega) HBQ.o ((HSK.o _).2 ⟨by omega,ht2'⟩) (by rw [<- HK6.o];exact h83));go_wp2;go_ret;exact ⟨false,rfl,by simp [HNO.o],HX.o _ HB6.o.2⟩
         .have HN:=zh (HQ.o (fun s hs=>by
           have h1:=(HSK.o s).1 hs;have h2:=HG.o s.toNat (by omega)
           rwa [Int.toNat_of_nonneg h1.1] at h2))
          go_wp2
          go_roundw
          .exact ⟨q+1,by omega,by go_num,HN.o,HB5.o⟩
          .simp [qf,intOf];omega
      .have HN:=zh (show ∀ m':Nat,m'<m+1->∀ b:Int,(b=-1\/(0<=b/\b<((ms.getD m' aK).bn:Int)))->F2 (aE ms) L m' b from fun m' hm' b hb=>by
        by_cases e:m'=m
        .subst e;rw [<- HBN.o] at hb;exact HF2.o b (by omega)
        .exact HF.o m' (by omega) b hb)
       go_wp2
       go_roundw
       .exact ⟨m+1,by omega,by go_num,HN.o,HB3.o⟩
       .simp [qf,intOf];omega
    .have h8':(8:Int)<(k:Int):=by omega
     have HNO:=zh (aAx HM.o (m:=(m:Int)) (b:=-1) (s:=-1) (by omega) (.inl rfl) (aNh L) (by rw [<- HK2.o];exact h8));go_wp2;go_ret;exact ⟨false,rfl,by simp [HNO.o],HX.o _ HB2.o⟩
   .have HN:=zh (aGf HM.o HC.o (fun m' hm'=>HF.o m' (by omega)));go_wp2;go_ret;exact ⟨true,rfl,by simp [HN.o],HX.o _ HB.o⟩
 .rw [xS c1] at HR;have HC:=zh c1;clear c1;go_enter func75,ntmps75
  go_wp2_with (rw [<- HV.o])
  refine HR.o.mono ?_;rintro e X1 ⟨rfl,hb1⟩;have HB1:=zh hb1;clear hb1;go_wp2;go_ret;exact ⟨false,rfl,by simp [uJ,HC.o],HX.o _ HB1.o⟩
