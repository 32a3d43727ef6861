import Derived.ChangeOld
import Derived.OpenShut
import Derived.ProofKit
import Derived.ShutString
import Derived.Test.YtncccmeomcaabaaGreatC11
set_option linter.all false
set_option maxHeartbeats 64000000
namespace Go.Proofs.YtncccmeomcaabaaGreat
open Go.RowKit Classical
set_option maxRecDepth 100000
variable {L:Lay}{a:qO}{b s:Int}{cap n:Nat}{ms:List Md}
theorem aAy {w:qw}(h:MSD w a n cap ms)(m b:Int):0<=pcq (aE ms) m b ↔ (0<=m/\m<(n:Int))/\(b=-1\/(0<=b/\b<((ms.getD m.toNat aK).bn:Int))):=by
 have hn:=h.s.1;rw [<- dX h];unfold pcm;rw [hn];by_cases c:0<=m/\m<(n:Int)
 .rw [if_pos c];unfold pcn;by_cases c1:b=-1
  .rw [if_pos c1];exact ⟨fun _=>⟨c,.inl c1⟩,fun _=>by omega⟩
  .rw [if_neg c1];by_cases c2:0<=b/\b<((ms.getD m.toNat aK).bn:Int)
   .rw [if_pos c2];exact ⟨fun _=>⟨c,.inr c2⟩,fun _=>by omega⟩
   .rw [if_neg c2];exact ⟨fun h=>absurd h (by decide),fun h=>absurd h.2 (fun h=>h.elim c1 c2)⟩
 .rw [if_neg c];exact ⟨fun h=>absurd h (by decide),fun h=>absurd h.1 c⟩
theorem aOh (L:Lay):sOk L (-1) (-1):=by unfold sOk;rw [if_pos (.inl rfl)]
theorem aPf (h:sOk L (-1) s):s=-1:=by unfold sOk at h;rwa [if_pos (.inl rfl)] at h
theorem aOi (b:Int)(h:L.slots=[]):sOk L b (-1):=by unfold sOk;rw [if_pos (.inr h)]
theorem aPg (h:L.slots=[])(hs:sOk L b s):s=-1:=by unfold sOk at hs;rwa [if_pos (.inr h)] at hs
theorem aQd (hb:b≠-1)(h:¬ L.slots=[]):sOk L b s ↔ 0<=s/\s<(L.slots.length:Int):=by unfold sOk;rw [if_neg (fun c=>c.elim hb h)]
def F2 (ps:List PMod)(L:Lay)(m b:Int):Prop:=∀ s:Int,sOk L b s->(plR ps L m b s).length<=8
theorem aHa {w:qw}(h:MSD w a n cap ms)(hk:Lok (aE ms) L)(hf:∀ m:Nat,m<n->∀ b:Int,(b=-1\/(0<=b/\b<((ms.getD m aK).bn:Int)))->F2 (aE ms) L m b):vG (aE ms) L:=by
 refine ⟨hk,fun m b s hp hs=>?_⟩;obtain ⟨⟨h1,h2⟩,h3⟩:=(aAy h m b).1 hp;have:=hf m.toNat (by omega) b h3 s hs
 rwa [Int.toNat_of_nonneg h1] at this
theorem aBn {w:qw}(h:MSD w a n cap ms){m:Int}(hm:0<=m/\m<(n:Int))(hb:b=-1\/(0<=b/\b<((ms.getD m.toNat aK).bn:Int)))(hs:sOk L b s)(hl:¬ (plR (aE ms) L m b s).length<=8):¬ vG (aE ms) L:=fun hf=>hl (hf.2 m b s ((aAy h m b).2 ⟨hm,hb⟩) hs)
theorem aH0 (a:qO)(n cap:Nat)(ms:List Md)(L:Lay)(a0:qO)(c0:Nat)(xs:List PB)(a2:qO)(c2:Nat)(a5:qO)(c5:Nat)(ts:List TB)(w:qw)(h:MSD w a n cap ms)(hL:LyT w L a0 c0 xs a2 c2 a5 c5 ts):
 qC 75 #[qS a n cap,.agg (qL L a0 xs.length c0 a2 L.slots.length c2 a5 ts.length c5)] w fun e w'=>∃ r:Bool,e=.returned (.bool r)/\(r=true ↔ vG (aE ms) L)/\qY w w':=by
 obtain ⟨V,hV⟩:=eqx (w.alloc (.cells (qL L a0 xs.length c0 a2 L.slots.length c2 a5 ts.length c5) 71));have hB:qY w V:=by rw [hV];exact brf.alloc aN _
 have k0:Blk V w.heap.size (qL L a0 xs.length c0 a2 L.slots.length c2 a5 ts.length c5) 71:=by rw [hV];exact Blk.new w _ _
 have HBV:=zh hB;have HM:=zh (h.bw hB);have HL2:=zh (hL.bw hB);have HV:=zh hV;have HK:=zh k0;have hn:=h.s.1;have hmx:=h.s.2.1;have hlx:=hL.s.2.1;unfold maxLen at hmx hlx;have HKX:Zh (∀ X,qY V X->X.cell? (qR w.heap.size 0)=some (qS a0 xs.length c0)/\X.cell? (qR w.heap.size 1)=some (qI L.stack)/\X.cell? (qR w.heap.size 2)=some (qS a2 L.slots.length c2)/\X.cell? (qR w.heap.size 3)=some (qI L.flash)/\X.cell? (qR w.heap.size 4)=some (qI L.ram)/\X.cell? (qR w.heap.size 5)=some (qS a5 ts.length c5)):=fun X hz=>(HK.o.bw hz).ly6;have HX:Zh (∀ X,qY V X->qY w X):=fun X hz=>HBV.o.trans (hz.mono HBV.o.size);have HR:Zh (qC 142 #[qS a n cap,.agg (qL L a0 xs.length c0 a2 L.slots.length c2 a5 ts.length c5)] V (fun e w'=>e=.returned (.bool (decide (Lok (aE ms) L)))/\qY V w')):=tX a n cap ms L a0 c0 xs a2 c2 a5 c5 ts V HM.o HL2.o;clear hV k0 h hL hB;obtain ⟨z0,z1,z2,z3,z4,z5⟩:=HKX.o _ brf;by_cases c1:Lok (aE ms) L
 .rw [xR c1] at HR;have HC:=zh c1;have HPL:Zh (∀ X (m b s:Int),qY V X->(0<=m/\m<(n:Int))->(b=-1\/(0<=b/\b<((ms.getD m.toNat aK).bn:Int)))->sOk L b s->qC 143 #[qS a n cap,.agg (qL L a0 xs.length c0 a2 L.slots.length c2 a5 ts.length c5),.agg (qT m b 0),qI s] X (fun e w'=>∃ A k c,e=.returned (qS A k c)/\k=(plR (aE ms) L m b s).length/\qY X w'/\qY V w')):=fun X m b s hz hm hb hs=>(aFa a n cap ms L a0 c0 xs a2 c2 a5 c5 ts m b 0 s X (HM.o.bw hz) (HL2.o.bw hz) c1 ((aAy HM.o m b).2 ⟨hm,hb⟩) hs.fit).mono fun e w' ⟨A,k,c,he,ho,hbb⟩=>⟨A,k,c,he,(fC ho).1.symm,hbb,hz.trans (hbb.mono hz.size)⟩;clear c1;obtain ⟨l,hl⟩:=eqx (L.slots.length);rw [<- hl] at HR HPL HKX HV z2 hlx ⊢;have HLE:=zh hl;have HSE:=zh (show L.slots=[] ↔ l=0 by rw [hl];exact List.length_eq_zero_iff.symm);clear hl;go_enter Tryz.func75,Tryz.ntmps75
  go_wp2_with (rw [<- HV.o])
  refine HR.o.mono ?_;rintro e X1 ⟨rfl,hb1⟩;have HB1:=zh hb1;clear hb1 z0 z1 z2 z3 z4 z5 HR HV;go_wp2_with fail
  go_loopw [5] (fun i wr=>∃ m:Nat,m<=n/\i=qI m/\(∀ m':Nat,m'<m->∀ b:Int,(b=-1\/(0<=b/\b<((ms.getD m' aK).bn:Int)))->F2 (aE ms) L m' b)/\qY V wr) (qf n)
  .exact ⟨0,xC _,rfl,fun m' hm'=>absurd hm' (Nat.not_lt_zero _),HB1.o⟩
  .obtain ⟨m,hm,rfl,hF,hB⟩:=hrel;have HF:=zh hF;have HB:=zh hB;clear hF hB HB1;by_cases hlt:m<n
   .have hlt':(m:Int)<(n:Int):=by omega
    obtain ⟨gm,om,rfl,_,_,v2,_,_,_,_,_⟩:=HM.o.s.at m hlt;have hbx:(ms.getD m aK).bn<=9223372036854775807:=by have:=(HM.o.s.2.2.2.1 m hlt).b.2.1;unfold maxLen at this;omega
    obtain ⟨bn,hbn⟩:=eqx ((ms.getD m aK).bn);have HBN:=zh hbn;rw [<- hbn] at v2 hbx;clear hbn;have HP1:=zh (HPL.o wr m (-1) (-1) HB.o (by omega) (.inl rfl) (aOh L));obtain ⟨z0,z1,z2,z3,z4,z5⟩:=HKX.o _ HB.o;go_wp2_with fail
    refine HP1.o.mono ?_;rintro e X2 ⟨A,k,c,rfl,hk,_,hb2⟩;have HK2:=zh hk;have HB2:=zh hb2;clear hk hb2 HP1 z0 z1 z2 z3 z4 z5;by_cases h8:k<=8
    .have h8':(k:Int)<=8:=by omega
     have HT:Zh (F2 (aE ms) L m (-1)):=fun s hs=>by rw [aPf hs,<- HK2.o];exact h8
     go_wp2_with fail
     generalize wr=wo at *;go_loopw [6] (fun i wr=>∃ q:Nat,q<=bn/\i=qI q/\(∀ b:Int,(b=-1\/(0<=b/\b<(q:Int)))->F2 (aE ms) L m b)/\qY V wr) (qf bn)
     .exact ⟨0,xC _,rfl,fun b hb=>by rcases hb with rfl|hb;exact HT.o;omega,HB2.o⟩
     .obtain ⟨q,hq,rfl,hF2,hB3⟩:=hrel;have HF2:=zh hF2;have HB3:=zh hB3;clear hF2 hB3;have v3:=aB HB3.o v2;by_cases hq2:q<bn
      .have hq2':(q:Int)<(bn:Int):=by omega
       generalize wr=wp at *
       have HQ:=zh (show F2 (aE ms) L m (q:Int)->∀ b:Int,(b=-1\/(0<=b/\b<((q+1:Nat):Int)))->F2 (aE ms) L m b from fun h b hb=>by
        by_cases e:b=(q:Int)
        .rw [e];exact h
        .exact HF2.o b (by omega))
       obtain ⟨V3,hV3⟩:=eqx (wp.alloc (.cells (qT m q 0) 58));have bV3:qY V V3:=by rw [hV3];exact HB3.o.alloc HB3.o.size _
       have kT:Blk V3 wp.heap.size (qT m q 0) 58:=by rw [hV3];exact Blk.new _ _ _
       have HV3:=zh hV3;have HBV3:=zh bV3;have HKT:=zh kT;have v4:=aB HBV3.o v2;clear hV3 bV3 kT;obtain ⟨z0,z1,z2,z3,z4,z5⟩:=HKX.o _ HBV3.o;obtain ⟨y0,y1,y2⟩:=HKT.o.tg3;have HBQ:Zh ((q:Int)=-1\/(0<=(q:Int)/\(q:Int)<((ms.getD ((m:Int)).toNat aK).bn:Int))):=.inr ⟨by omega,by rw [xY,<- HBN.o];exact hq2'⟩;by_cases hl0:l=0
       .have HSL:=zh (HSE.o.2 hl0);have HP2:=zh (HPL.o V3 m q (-1) HBV3.o (by omega) HBQ.o (aOi _ HSL.o));subst hl0;go_wp2_with (rw [<- HV3.o])
        refine HP2.o.mono ?_;rintro e X4 ⟨A2,k2,c2',rfl,hk2,_,hb4⟩;have HK4:=zh hk2;have HB4:=zh hb4;clear hk2 hb4 HP2 z0 z1 z2 z3 z4 z5 y0 y1 y2;by_cases h82:k2<=8
        .have h82':(k2:Int)<=8:=by omega
         have HN:=zh (HQ.o (fun s hs=>by rw [aPg HSL.o hs,<- HK4.o];exact h82));go_wp2_with fail
         go_loopw [8] (fun i wr=>i=qI 0/\qY V wr) (fun _ _=>0)
         .exact ⟨rfl,HB4.o⟩
         .obtain ⟨rfl,hB5⟩:=hrel;have HB5:=zh hB5;obtain ⟨z0,z1,z2,z3,z4,z5⟩:=HKX.o _ HB5.o;clear hB5;go_wp2
          go_roundw
          .exact ⟨q+1,by omega,by go_num,HN.o,HB5.o⟩
          .simp [qf,intOf];omega
        .have h82':(8:Int)<(k2:Int):=by omega
         have HNO:=zh (aBn HM.o (m:=(m:Int)) (b:=(q:Int)) (s:=-1) (by omega) HBQ.o (aOi _ HSL.o) (by rw [<- HK4.o];exact h82));go_wp2;go_ret;exact ⟨false,rfl,by simp [HNO.o],HX.o _ HB4.o⟩
       .have hl0':((l:Int)==0)=false:=by simpa using hl0
        have HSK:Zh (∀ s:Int,sOk L (q:Int) s ↔ 0<=s/\s<(l:Int)):=fun s=>by rw [HLE.o];exact aQd (by omega) (fun e=>hl0 (HSE.o.1 e))
        go_wp2_with (rw [<- HV3.o])
        clear z0 z1 z2 z3 z4 z5 y0 y1 y2;go_loopw [8] (fun i wr=>∃ t:Nat,t<=l/\i=qI t/\(∀ s':Nat,s'<t->(plR (aE ms) L m q s').length<=8)/\Blk wr wp.heap.size (qT m q 0) 58/\qY V wr) (qf l)
        .exact ⟨0,xC _,rfl,fun s' hs'=>absurd hs' (Nat.not_lt_zero _),HKT.o,HBV3.o⟩
        .obtain ⟨t,ht,rfl,hG,kt5,hB5⟩:=hrel;have HG:=zh hG;have HK5:=zh kt5;have HB5:=zh hB5;clear hG kt5 hB5;obtain ⟨z0,z1,z2,z3,z4,z5⟩:=HKX.o _ HB5.o;obtain ⟨y0,y1,y2⟩:=HK5.o.tg3;by_cases ht2:t<l
         .have ht2':(t:Int)<(l:Int):=by omega
          have HP3:=zh (HPL.o wr m q t HB5.o (by omega) HBQ.o ((HSK.o _).2 ⟨by omega,ht2'⟩));go_wp2_with fail
          refine HP3.o.mono ?_;rintro e X6 ⟨A3,k3,c3',rfl,hk3,hbx6,hb6⟩;have HK6:=zh hk3;have HB6:=zh (xA hbx6 hb6);clear hk3 hbx6 hb6 HP3 z0 z1 z2 z3 z4 z5 y0 y1 y2;by_cases h83:k3<=8
          .have h83':(k3:Int)<=8:=by omega
           have HN:=zh (show ∀ s':Nat,s'<t+1->(plR (aE ms) L m q s').length<=8 from fun s' hs'=>by
            by_cases e:s'=t
            .rw [e,<- HK6.o];exact h83
            .exact HG.o s' (by omega))
           go_wp2
           go_roundw
           .exact ⟨t+1,by omega,by go_num,HN.o,HK5.o.bw HB6.o.1,HB6.o.2⟩
           .simp [qf,intOf];omega
          .have h83':(8:Int)<(k3:Int):=by omega
           have HNO:=zh (aBn HM.o (m:=(m:Int)) (b:=(q:Int)) (s:=(t:Int)) (by omega) HBQ.o ((HSK.o _).2 ⟨by omega,ht2'⟩) (by rw [<- HK6.o];exact h83));go_wp2;go_ret;exact ⟨false,rfl,by simp [HNO.o],HX.o _ HB6.o.2⟩
         .have HN:=zh (HQ.o (fun s hs=>by
           have h1:=(HSK.o s).1 hs;have h2:=HG.o s.toNat (by omega)
           rwa [Int.toNat_of_nonneg h1.1] at h2))
          go_wp2
          go_roundw
          .exact ⟨q+1,by omega,by go_num,HN.o,HB5.o⟩
          .simp [qf,intOf];omega
      .have HN:=zh (show ∀ m':Nat,m'<m+1->∀ b:Int,(b=-1\/(0<=b/\b<((ms.getD m' aK).bn:Int)))->F2 (aE ms) L m' b from fun m' hm' b hb=>by
        by_cases e:m'=m
        .subst e;rw [<- HBN.o] at hb;exact HF2.o b (by omega)
        .exact HF.o m' (by omega) b hb)
       go_wp2
       go_roundw
       .exact ⟨m+1,by omega,by go_num,HN.o,HB3.o⟩
       .simp [qf,intOf];omega
    .have h8':(8:Int)<(k:Int):=by omega
     have HNO:=zh (aBn HM.o (m:=(m:Int)) (b:=-1) (s:=-1) (by omega) (.inl rfl) (aOh L) (by rw [<- HK2.o];exact h8));go_wp2;go_ret;exact ⟨false,rfl,by simp [HNO.o],HX.o _ HB2.o⟩
   .have HN:=zh (aHa HM.o HC.o (fun m' hm'=>HF.o m' (by omega)));go_wp2;go_ret;exact ⟨true,rfl,by simp [HN.o],HX.o _ HB.o⟩
 .rw [xS c1] at HR;have HC:=zh c1;clear c1;go_enter Tryz.func75,Tryz.ntmps75
  go_wp2_with (rw [<- HV.o])
  refine HR.o.mono ?_;rintro e X1 ⟨rfl,hb1⟩;have HB1:=zh hb1;clear hb1;go_wp2;go_ret;exact ⟨false,rfl,by simp [vG,HC.o],HX.o _ HB1.o⟩
theorem lB (M:Mn)(m b t:Int)(w:qw)(h:MnD w M):
 qC 59 #[.agg #[qS M.ma M.mn M.mc,qI M.cs,qI M.cw,qI M.ck,qI M.cd,qI M.pc,qS M.ka M.kn M.kc,qS M.fa M.fn M.fc,qS M.ra M.rn M.rc,qS M.oa M.on M.oc,qI M.md,qI M.bk,qS M.la M.ln M.lc,qS M.ha M.hn M.hc,qI M.tn],.agg #[qI m,qI b,qI t]] w fun e w'=>e=.returned (.bool (decide (tgk (aE M.ms) m b t/\M.tn<1000000000)))/\qY w w':=by
 obtain ⟨V,hV⟩:=eqx ((w.alloc (.cells #[qS M.ma M.mn M.mc,qI M.cs,qI M.cw,qI M.ck,qI M.cd,qI M.pc,qS M.ka M.kn M.kc,qS M.fa M.fn M.fc,qS M.ra M.rn M.rc,qS M.oa M.on M.oc,qI M.md,qI M.bk,qS M.la M.ln M.lc,qS M.ha M.hn M.hc,qI M.tn] 43)).alloc (.cells #[qI m,qI b,qI t] 58));have bV:qY w V:=by rw [hV];exact bal.alloc (by simp) _
 have kM:Blk V w.heap.size #[qS M.ma M.mn M.mc,qI M.cs,qI M.cw,qI M.ck,qI M.cd,qI M.pc,qS M.ka M.kn M.kc,qS M.fa M.fn M.fc,qS M.ra M.rn M.rc,qS M.oa M.on M.oc,qI M.md,qI M.bk,qS M.la M.ln M.lc,qS M.ha M.hn M.hc,qI M.tn] 43:=by rw [hV];exact (Blk.new _ _ _).alloc _
 have kT:Blk V (w.heap.size+1) #[qI m,qI b,qI t] 58:=by rw [hV];have:=Blk.new (w.alloc (.cells #[qS M.ma M.mn M.mc,qI M.cs,qI M.cw,qI M.ck,qI M.cd,qI M.pc,qS M.ka M.kn M.kc,qS M.fa M.fn M.fc,qS M.ra M.rn M.rc,qS M.oa M.on M.oc,qI M.md,qI M.bk,qS M.la M.ln M.lc,qS M.ha M.hn M.hc,qI M.tn] 43)) #[qI m,qI b,qI t] 58;simpa using this
 have hm:=h.m.bw bV;have HIP:=zh (gR M.ma M.mn M.mc M.ms m b V hm.s);rw [dX hm m b] at HIP;obtain ⟨r,hr⟩:=eqx (decide (tgk (aE M.ms) m b t/\M.tn<1000000000));rw [<- hr];have HR:=zh hr;have HV:=zh hV;have HK:=zh (xA bV (xA kM kT));have hmx:=hm.s.2.1;unfold maxLen at hmx;have x0:=kM.cell 0;have x14:=kM.cell 14;have y0:=kT.cell 0;have y1:=kT.cell 1;clear hV hr;by_cases c:0<=pcq (aE M.ms) m b
 .rw [xR c] at HIP;by_cases c2:M.tn<1000000000
  .have c2':¬ M.tn ≥ 1000000000:=by omega
   obtain ⟨⟨m0,m1⟩,_⟩:=kJ hm c;have m0':¬ m<0:=by omega
   have HP:=zh (fun (D:Md) (hD:M.ms.getD m.toNat aK=D) (X:qw) (hX:qY V X)=>oX hm c hD X hX);obtain ⟨gm,om,ea,v0,v1,v2,v3,v4,v5,v6,v7⟩:=hm.s.at m.toNat (by omega);obtain ⟨D,hD⟩:=eqx (M.ms.getD m.toNat aK);rw [<- hD] at v0 v1 v2 v3 v4 v5 v6 v7;have HPD:=zh (HP.o D hD.symm);have HRQ:=zh (show r=decide (0<=t/\t<=pcq (aE M.ms) m b) from by rw [HR.o];unfold tgk;simp [c,c2]);clear HR;generalize pcq (aE M.ms) m b=q at *;rw [ea] at x0 HIP HK HV ⊢
   have HC:=zh (fun (X:qw) (hX:qY V X)=>show (X.cell? (qR w.heap.size 0)=some (qS (some (qR gm om)) M.mn M.mc)/\X.cell? (qR (w.heap.size+1) 0)=some (qI m)/\X.cell? (qR (w.heap.size+1) 1)=some (qI b)/\X.cell? (qR (w.heap.size+1) 2)=some (qI t))/\X.cell? (qR gm (om+m.toNat*8))=some (.string D.nm)/\X.cell? (qR gm (om+m.toNat*8+1))=some (qS D.ta D.tn D.tc)/\X.cell? (qR gm (om+m.toNat*8+2))=some (qS D.ba D.bn D.bc)/\X.cell? (qR gm (om+m.toNat*8+3))=some (qS D.da D.dn D.dc)/\X.cell? (qR gm (om+m.toNat*8+4))=some (qI D.bss)/\X.cell? (qR gm (om+m.toNat*8+5))=some (qS D.ra D.rn D.rc)/\X.cell? (qR gm (om+m.toNat*8+6))=some (qS D.ia D.im D.ic)/\X.cell? (qR gm (om+m.toNat*8+7))=some (qS D.ea D.en D.ec) from
    ⟨⟨(HK.o.2.1.bw hX).cell 0,(kT.bw hX).cell 0,(kT.bw hX).cell 1,(kT.bw hX).cell 2⟩,aB hX v0,aB hX v1,aB hX v2,aB hX v3,aB hX v4,aB hX v5,aB hX v6,aB hX v7⟩)
   clear HP hD h hm bV kM kT c v0 v1 v2 v3 v4 v5 v6 v7 ea;go_enter Tryz.func59,Tryz.ntmps59
   go_wp2_with (rw [<- HV.o])
   refine HIP.o.mono ?_;rintro e X1 ⟨rfl,hb1⟩;have HX1:=zh hb1;have z14:=(HK.o.2.1.bw hb1).e14;have HP2:=zh (fun (X:qw) (hX:qY X1 X)=>(HPD.o X (HX1.o.trans (hX.mono HX1.o.size))).mono (fun e w' he=>show ∃ xa xn xc,e=.returned (.tuple #[qS xa xn xc,.bool true])/\(xn:Int)=q/\qY V w' from he));obtain ⟨⟨p0,p1,p2,p3⟩,u0,u1,u2,u3,u4,u5,u6,u7⟩:=HC.o X1 hb1;clear hb1 HIP HV HPD x0 x14 y0 y1;go_wp2_with fail
   clear z14
   go_region_held3 (fun w'=>w'.cell? (qR w.heap.size 0)=some (qS (some (qR gm om)) M.mn M.mc)/\w'.cell? (qR (w.heap.size+1) 0)=some (qI m)/\w'.cell? (qR (w.heap.size+1) 1)=some (qI b)/\w'.cell? (qR gm (om+m.toNat*8))=some (.string D.nm)/\w'.cell? (qR gm (om+m.toNat*8+1))=some (qS D.ta D.tn D.tc)/\w'.cell? (qR gm (om+m.toNat*8+2))=some (qS D.ba D.bn D.bc)/\w'.cell? (qR gm (om+m.toNat*8+3))=some (qS D.da D.dn D.dc)/\w'.cell? (qR gm (om+m.toNat*8+4))=some (qI D.bss)/\w'.cell? (qR gm (om+m.toNat*8+5))=some (qS D.ra D.rn D.rc)/\w'.cell? (qR gm (om+m.toNat*8+6))=some (qS D.ia D.im D.ic)/\w'.cell? (qR gm (om+m.toNat*8+7))=some (qS D.ea D.en D.ec)) (go_keep)
    (first
      | (go_at_call 115;first
          | with_reducible refine (HP2.o _ brf).mono ?_
          | with_reducible refine (HP2.o _ brf.drew).mono ?_
         rintro e w1 ⟨xa,xn,xc,rfl,hxn,hb1⟩;have HXN:=zh hxn;have HB1:=zh hb1;obtain ⟨⟨z0,z1,z2,z3⟩,t0,t1,t2,t3,t4,t5,t6,t7⟩:=HC.o w1 hb1
         clear hb1 hxn))
   clear p0 p1 p2 p3 u0 u1 u2 u3 u4 u5 u6 u7 t0 t1 t2 t3 t4 t5 t6 t7 HP2 HC HX1 z0 z1 z2;by_cases d1:0<=t
   .have d1':t ≥ 0:=d1;by_cases d2:t<=(xn:Int)
    .have e:=zh (show r=true from by rw [HRQ.o,<- HXN.o];simp [d1,d2]);clear HRQ HXN;go_wp2;go_ret;exact ⟨aA e.o.symm,HK.o.1.trans (HB1.o.mono HK.o.1.size)⟩
    .have e:=zh (show r=false from by rw [HRQ.o,<- HXN.o];simp [d1];omega);clear HRQ HXN;go_wp2;go_ret;exact ⟨aA e.o.symm,HK.o.1.trans (HB1.o.mono HK.o.1.size)⟩
   .have d1':¬ t ≥ 0:=d1;have e:=zh (show r=false from by rw [HRQ.o];simp;omega);clear HRQ HXN;go_wp2;go_ret;exact ⟨aA e.o.symm,HK.o.1.trans (HB1.o.mono HK.o.1.size)⟩
  .have c2':M.tn ≥ 1000000000:=by omega
   have e:=zh (show r=false from by rw [HR.o];simp [c2]);clear h hm HR bV;go_enter Tryz.func59,Tryz.ntmps59
   go_wp2_with (rw [<- HV.o])
   refine HIP.o.mono ?_;rintro e X1 ⟨rfl,hb1⟩;have z14:=(HK.o.2.1.bw hb1).e14;go_wp2;go_ret;exact ⟨aA e.o.symm,HK.o.1.trans (hb1.mono HK.o.1.size)⟩
 .rw [xS c] at HIP;have e:=zh (show r=false from by rw [HR.o];exact xS (fun k=>c k.1.1));clear h hm HR bV;go_enter Tryz.func59,Tryz.ntmps59
  go_wp2_with (rw [<- HV.o])
  refine HIP.o.mono ?_;rintro e X1 ⟨rfl,hb1⟩;go_wp2;go_ret;exact ⟨aA e.o.symm,HK.o.1.trans (hb1.mono HK.o.1.size)⟩
theorem aM8 (W:qw)(base:Nat)(hb:base<=W.heap.size):OMp (W.alloc (.cells #[] 138)) base (qS (qP W.heap.size) 0 0) [] (fun _=>W.heap.size):=⟨bK _ _ _ _ _ hb,fun i x hx=>by simp at hx,fun _ _ _ _=>aN,hb,by simp⟩
def L7P (w:qw)(n:Nat)(L:List (PMod×Mb))(e:Ending)(w':qw):Prop:=∃ a cap L' β',e=.returned (qS a n cap)/\OMp w' w.heap.size (qS a n cap) L' β'/\L'.map (fun x=>x.1)=L.map (fun x=>x.1)/\qY w w'
theorem aNa {α:Type}{t:TypeId}{sz:Nat}{f:α->List Value}{w:qw}{base:Nat}{v:Value}{xs:List α}(h:OG t sz f w base v xs):OG t sz f w.drew base v xs:=h.bw brf.drew
theorem aE5 (g n cap:Nat)(L:List (PMod×Mb))(w:qw)(H:OMq w (qP g) L)(hl:L.length=n)(hn:n<=1048576):
 qC 83 #[qS (qP g) n cap] w (L7P w n L):=by
 obtain ⟨iI,hiI,hI0,hI1,hI2⟩:=info_parts jV;obtain ⟨iB,hiB,hB0,hB1,hB2⟩:=info_parts aLe;obtain ⟨iT,hiT,hiT0,hiT1,hiT2⟩:=info_parts aLc;obtain ⟨iX,hiX,hiX0,hiX1,hiX2⟩:=info_parts aLa;obtain ⟨iM,hiM,hiM0,hiM1,hiM2⟩:=info_parts aLd;have S0:=aM8 w w.heap.size aN;have B0:qY w (w.alloc (.cells #[] 138)):=bal;have HS0:=zh (xA S0 B0);have HH:=zh H;clear S0 B0 H;go_enter Tryz.func83,Tryz.ntmps83
 go_wp2;go_loopw [3,4] (fun v i wr=>∃ j:Nat,j<=n/\i=qI j/\∃ L' β',OMp wr w.heap.size v L' β'/\L'.map (fun x=>x.1)=(L.take j).map (fun x=>x.1)/\qY w wr) (fun _ i _=>n-(intOf i).toNat)
 .exact ⟨0,xC _,rfl,[],_,HS0.o.1,by simp,HS0.o.2⟩
 .obtain ⟨j,hj,rfl,L',β',O,hL,B⟩:=hrel;have hl':L'.length=j:=by have:=congrArg List.length hL;simp at this;omega
  obtain ⟨av,cv,rfl⟩:=aR O.o;rw [hl'] at O ⊢;generalize wr=W0 at *;clear HS0;by_cases hlt:j<n
  .have hlt':(j:Int)<(n:Int):=by omega
   obtain ⟨⟨P,⟨b1,d1,b2,d2,bq,b3,d3,b5,d5,b6,d6,b7,d7⟩⟩,hx⟩:∃ x,L[j]?=some x:=⟨L[j],xN (by omega)⟩;have HSR:=zh (fun (X:qw) (hX:qY W0 X)=>(HH.o.bw (B.trans (hX.mono B.size))).srcM hx);have HO:=zh (xA O (xA hL B));obtain ⟨⟨s0,s1,s2,s3,s4,s5,s6,s7⟩,_⟩:=HSR.o W0 brf;obtain ⟨w1,hw1⟩:=eqx (W0.alloc (.cells (qM P.nm b1 P.tz.length d1 b2 bq.length d2 b3 P.dz.length d3 P.bss b5 P.rz.length d5 b6 P.ss.length d6 b7 P.es.length d7) 138));have C1:Cpm W0 w1 W0.heap.size (qM P.nm b1 P.tz.length d1 b2 bq.length d2 b3 P.dz.length d3 P.bss b5 P.rz.length d5 b6 P.ss.length d6 b7 P.es.length d7):=by rw [hw1];exact ⟨bal,Blk.new _ _ _,aN⟩
   have b1':qY w1 (w1.alloc (.cells #[] 3)):=bal;obtain ⟨⟨q0,q1,q2,q3,q4,q5,q6,q7⟩,mo,R⟩:=HSR.o _ (C1.b.trans (b1'.mono C1.b.size));have HOW:=zh (bK 3 1 clI w1 w1.heap.size aN);have HSC:=zh mo.t;have ht:=R.t.1;have hbn:bq.length<=1048576:=by have h1:=R.b.1;rw [<- mo.bls,xH] at h1;exact h1
   have HRR:=zh R;have HC1:=zh C1;have HW1:=zh hw1;have HXX:=zh hx;clear O hL B C1 hw1 b1' mo hx R;go_wp2_with (first|(at_builtin;refine bH rfl _ _ 25 rfl w1.heap.size 3 iI (qI 0) 1 8 Tryz.underlying25 hiI hI0 hI1 hI2 rfl (by decide) (qS (qP w1.heap.size) 0 0) [] rfl HOW.o b1 P.tz.length d1 P.tz rfl HSC.o (fun _=>rfl) (fun y u hu=>by simp [clI] at hu;subst hu;rfl) (by unfold maxLen;simp;omega) (by simp;omega) (by simp) ?_;intro v' w2 O2 G2;rw [List.nil_append] at O2;obtain ⟨t1,e1,rfl⟩:=aR O2;obtain ⟨k2,C2,R2,T2⟩:=HC1.o.row 1 O2 (by decide) G2;have z1:=k2.cell 1;have zf1:=k2.frozen 1;have kk:=C2.k.alloc (.cells #[] 25);have z2:=kk.cell 2;have zf2:=kk.frozen 2;have HC2:=zh (Cpb.new (v2:=qS b2 bq.length d2) (C2:Cpm W0 _ W0.heap.size (qM P.nm t1 P.tz.length e1 b2 bq.length d2 b3 P.dz.length d3 P.bss b5 P.rz.length d5 b6 P.ss.length d6 b7 P.es.length d7)) (OG.mono R2 HC1.o.b.size));clear kk k2 C2 R2 T2 O2 G2 q0 q1 q2 q3 q4 q5 q6 q7)|rw [<- HW1.o])
   try unfold qY at *
   rw [aL] at HC2;clear s0 s1 s2 s3 s4 s5 s6 s7;go_loopw [7] (fun i wr=>∃ (k:Nat) (a2:qO) (c2:Nat) (bl:List Bk),k<=bq.length/\i=qI k/\bl.map (fun B=>B.2.2.2)=(bq.take k).map (fun B=>B.2.2.2)/\Cpb W0 wr W0.heap.size w2.heap.size t1 e1 P.tz a2 c2 bl (.string P.nm) (qS b3 P.dz.length d3) (qI P.bss) (qS b5 P.rz.length d5) (qS b6 P.ss.length d6) (qS b7 P.es.length d7)) (qf bq.length)
   .exact ⟨0,_,_,[],xC _,rfl,by simp,HC2.o⟩
   .obtain ⟨k,a2,c2,bl,hk,rfl,hbl,C⟩:=hrel;have hbll:bl.length=k:=by have:=congrArg List.length hbl;simp at this;omega
    have hb255:bl.length<=1048576:=by omega
    have HBL:=zh hbll;clear z1 zf1 z2 zf2 HC2 hbll;generalize w2.heap.size=lo at *;by_cases hkl:k<bq.length
    .have hkl':(k:Int)<(bq.length:Int):=by omega
     have hk0:(0:Int)<=(k:Int):=by omega
     have hj0:(0:Int)<=(j:Int):=by omega
     obtain ⟨w5,hw5⟩:=eqx (wr.alloc (.cells #[] 3));have bw5:qY wr w5:=by rw [hw5];exact bal
     have ow5:OG 3 1 clI w5 wr.heap.size (qS (qP wr.heap.size) 0 0) []:=by rw [hw5];exact bK _ _ _ _ _ aN
     obtain ⟨⟨_,_,r2,_⟩,mo,_⟩:=HSR.o wr C.c.b;have C5:=C.bw bw5;obtain ⟨⟨_,_,p2,_⟩,mo5,R5⟩:=HSR.o w5 C5.c.b;obtain ⟨gb,A,Cc,zs,eb2,hB,p3,oz⟩:=mo5.b k hkl;subst eb2;have p1:=C5.c.k.cell 2;simp only [Array.getElem?_eq_getElem,List.getElem?_toArray,List.getElem?_cons_succ,List.getElem?_cons_zero] at p1;have hzl:zs.length<=1048576:=(R5.b.2 zs (by rw [<- mo5.bls,List.mem_map];exact ⟨_,List.mem_of_getElem? hB,rfl⟩)).1;have HW5:=zh hw5;have HOW5:=zh ow5;have HOZ:=zh oz;have HC:=zh (xA C bw5);have HBB:=zh (xA hB hbl)
     have HP3:=zh (fun (X:qw) (hX:qY W0 X)=>(show X.cell? (qR g (j*8+2))=some (qS (qP gb) bq.length d2)/\X.cell? (qR gb k)=some (qS A zs.length Cc) from by
      obtain ⟨⟨_,_,y2,_⟩,moX,_⟩:=HSR.o X hX;obtain ⟨gb',A',Cc',zs',e',hB',y3,_⟩:=moX.b k hkl;rw [hB] at hB';simp at e' hB';obtain ⟨rfl,_,rfl,rfl⟩:=hB';subst e'
      exact ⟨y2,y3⟩))
     clear hw5 bw5 ow5 mo C5 mo5 R5 oz C hB hbl;go_wp2_with (rw [<- HW5.o])
     have HSZ5:=zh HC.o.2.size
     go_region_law
      (first
        | (refine aEa (by rfl) _ _ 25 (by rfl) wr.heap.size 3 iI (qI 0) 1 8 Tryz.underlying25 hiI hI0 hI1 hI2 rfl (by decide) (qS (qP wr.heap.size) 0 0) [] (by rfl) (by first|exact HOW5.o|exact aNa HOW5.o) A zs.length Cc zs (by rfl) (by first|exact HOZ.o|exact HOZ.o.bw brf.drew) (fun _=>rfl) (fun y u hu=>by simp [clI] at hu;subst hu;rfl) (by unfold maxLen;simp;omega) (by simp;omega) (by exact HSZ5.o) ?_;intro v' w6 O6 G6;rw [List.nil_append] at O6;obtain ⟨A6,D6,rfl⟩:=aR O6;have hb6:qY wr w6:=(by first|exact pM HC.o.2 HSZ5.o rfl G6|exact pM HC.o.2.drew HSZ5.o rfl G6);have C6:=HC.o.1.bw hb6;obtain ⟨p2',p3'⟩:=HP3.o w6 C6.c.b;have p1':w6.cell? (qR W0.heap.size 2)=some (qS a2 bl.length c2):=C6.c.k.cell 2;have p1a:(w6.alloc (.cells #[qS A6 zs.length D6] 25)).cell? (qR W0.heap.size 2)=some (qS a2 bl.length c2):=(C6.c.k.alloc _).cell 2;have HOW6:=zh (C6.bw (brf.alloc aN (.cells #[qS A6 zs.length D6] 25))).b.head;have HNW6:=zh (bJ w6 _ 25 [qS A6 zs.length D6] rfl);have HBK:=zh (fun w4 d hown hgr=>HC.o.1.bank (w4:=w4) (d:=d) (O6.bw (brf.alloc aN (.cells #[qS A6 zs.length D6] 25))) (hb6.trans ((brf.alloc aN (.cells #[qS A6 zs.length D6] 25)).mono hb6.size)) hown hgr);have HSZ6:=zh (C6.bw (brf.alloc aN (.cells #[qS A6 zs.length D6] 25))).lh;clear O6 G6 hb6 C6)
        | (refine step_append_lies _ (by rfl) _ _ 114 (by rfl) lo 25 iB (qS none 0 0) 1 24 Tryz.underlying114 hiB hB0 hB1 hB2 rfl (by decide) (qS a2 bl.length c2) bl.length (bl.map fun B=>qS B.1 B.2.1 B.2.2.1) (by rfl) HOW6.o (qR w6.heap.size 0) 1 1 [qS A6 zs.length D6] (by rfl) (by rfl) HNW6.o (by intro u hu;simp at hu;subst hu;rfl) (by decide) (by unfold maxLen;omega) (by omega) HSZ6.o _ rfl ?_;intro g4 c4 w4 hown hgr hat hlt4;have HB4:=zh (HBK.o w4 _ hown hgr);have HP5:=zh (HP3.o _ (HB4.o.2.choose_spec.choose_spec.2.c.b));obtain ⟨p24,p34⟩:=HP3.o w4 HB4.o.1.b;have p14:w4.cell? (qR W0.heap.size 2)=some (qS a2 bl.length c2):=HB4.o.1.k.cell 2;have f4:=HB4.o.1.k.frozen 2;clear hown hgr hat))
     all_goals
      clear p1 p1' p1a p14 p2 p2' p24 p3 p3' p34 f4 HOW6 HNW6 HBK HSZ6 HP5;go_wp2
      go_roundw
      .obtain ⟨a',c',ed,CF⟩:=HB4.o.2;exact ⟨k+1,a',c',_,by omega,by go_num,by rw [List.map_append,HBB.o.2,lP HBB.o.1];rfl,CF⟩
      .simp [qf,intOf];omega
    .have hkl':¬ (k:Int)<(bq.length:Int):=by omega
     obtain rfl:k=bq.length:=by omega
     rw [List.take_length] at hbl;have hj0:(0:Int)<=(j:Int):=by omega
     obtain ⟨⟨_,_,r2,r3,_⟩,mo,R⟩:=HSR.o wr C.c.b;have HCA:=zh (aDh b3 P.dz.length d3 P.dz wr mo.d R.d.2 rfl (by have:=R.d.1;omega));have HC:=zh C;have HBB:=zh (show bl.map (fun B=>B.2.2.2)=P.bl by rw [hbl];exact mo.bls);clear C mo R hbl;go_wp2_with fail
     refine HCA.o.mono ?_;rintro e w7 ⟨a3,c3,rfl,o7,k7⟩;obtain ⟨C7,D7,P7,T7,_⟩:=HC.o.row (v3':=qS a3 P.dz.length c3) (aQl o7) k7 (by decide) 3 rfl;have y3:=C7.c.k.cell 3;have yf3:=C7.c.k.frozen 3;obtain ⟨X7,hX7⟩:=eqx (w7.setCell ⟨W0.heap.size,3,none⟩ (qS a3 P.dz.length c3));rw [<- hX7] at D7 P7 T7;obtain ⟨⟨_,_,_,_,_,r5,_⟩,mo7,R7⟩:=HSR.o _ (D7.bw (brf.alloc aN (.cells #[] 3))).c.b;have hrl:=R7.r.1;have hil:=R7.i.1;have hel:=R7.e.1;have HOW7:=zh (bK 3 1 clI X7 X7.heap.size aN);have HSC7:=zh mo7.r;have HD7:=zh (xA D7 (xA P7 (xM HC.o.c.b.size (Nat.le_refl wr.heap.size))));have HX7:=zh hX7;clear C7 D7 P7 T7 hX7 mo7 R7 o7 k7 r2 r3 HCA
     go_wp2_with (first
      | (at_builtin;refine bH rfl _ _ 25 rfl X7.heap.size 3 iI (qI 0) 1 8 Tryz.underlying25 hiI hI0 hI1 hI2 rfl (by decide) (qS (qP X7.heap.size) 0 0) [] rfl HOW7.o b5 P.rz.length d5 P.rz rfl HSC7.o (fun _=>rfl) (fun y u hu=>by simp [clI] at hu;first|(subst hu;rfl)|(rcases hu with rfl|rfl|rfl<;>rfl)) (by unfold maxLen;simp;omega) (by simp;omega) (by simp) ?_;intro v' w8 O8 G8;rw [List.nil_append] at O8;obtain ⟨a5,c5,rfl⟩:=aR O8;obtain ⟨C8,D8,P8,T8,_⟩:=HD7.o.1.row (v5':=qS a5 P.rz.length c5) O8 (jS G8) (by decide) 5 rfl;have HAP:=zh (HD7.o.1.apart O8);have y5:=C8.c.k.cell 5;have yf5:=C8.c.k.frozen 5;obtain ⟨X8,hX8⟩:∃ X8,X8=w8.setCell (qR W0.heap.size 5) (qS a5 P.rz.length c5):=⟨_,rfl⟩;rw [<- hX8] at D8 P8 T8;obtain ⟨⟨_,_,_,_,_,_,r6,_⟩,mo8,_⟩:=HSR.o _ (D8.bw (brf.alloc aN (.cells #[] 9))).c.b;have HOW8:=zh (bK 9 1 clT X8 X8.heap.size aN);have HSC8:=zh mo8.i;have HD8:=zh (xA D8 (xA P8 (cH T8 HD7.o.1.c.k HD7.o.2.1 (by decide))));have HX8:=zh hX8;clear C8 D8 P8 T8 hX8 mo8 O8 G8 r5)
      | (at_builtin;refine bH rfl _ _ 115 rfl X8.heap.size 9 iT (.string ⟨#[]⟩) 1 16 Tryz.underlying115 hiT hiT0 hiT1 hiT2 rfl (by decide) (qS (qP X8.heap.size) 0 0) [] rfl HOW8.o b6 P.ss.length d6 P.ss rfl HSC8.o (fun _=>rfl) (fun y u hu=>by simp [clT] at hu;first|(subst hu;rfl)|(rcases hu with rfl|rfl|rfl<;>rfl)) (by unfold maxLen;simp;omega) (by simp;omega) (by simp) ?_;intro v' w9 O9 G9;rw [List.nil_append] at O9;obtain ⟨a6,c6,rfl⟩:=aR O9;obtain ⟨C9,D9,P9,T9,_⟩:=HD8.o.1.row (v6':=qS a6 P.ss.length c6) O9 (jS G9) (by decide) 6 rfl;have y6:=C9.c.k.cell 6;have yf6:=C9.c.k.frozen 6;obtain ⟨X9,hX9⟩:∃ X9,X9=w9.setCell (qR W0.heap.size 6) (qS a6 P.ss.length c6):=⟨_,rfl⟩;rw [<- hX9] at D9 P9 T9;obtain ⟨⟨_,_,_,_,_,_,_,r7⟩,mo9,_⟩:=HSR.o _ (D9.bw (brf.alloc aN (.cells #[] 163))).c.b;have HOW9:=zh (bK 163 3 clX X9 X9.heap.size aN);have HSC9:=zh mo9.e;have HD9:=zh (xA D9 (xA P9 (xA (cH T9 HD8.o.1.c.k HD8.o.2.1 (by decide)) (cH T9 HD8.o.1.c.k HD8.o.2.2 (by decide)))));have HX9:=zh hX9;clear C9 D9 P9 T9 hX9 mo9 O9 G9 r6)
      | (at_builtin;refine bH rfl _ _ 136 rfl X9.heap.size 163 iX _ 3 32 Tryz.underlying136 hiX hiX0 hiX1 hiX2 rfl (by decide) (qS (qP X9.heap.size) 0 0) [] rfl HOW9.o b7 P.es.length d7 P.es rfl HSC9.o (fun _=>rfl) (fun y u hu=>by simp [clX] at hu;first|(subst hu;rfl)|(rcases hu with rfl|rfl|rfl<;>rfl)) (by unfold maxLen;simp;omega) (by simp;omega) (by simp) ?_;intro v' w10 O10 G10;rw [List.nil_append] at O10;obtain ⟨a7,c7,rfl⟩:=aR O10;obtain ⟨C10,D10,P10,T10,_⟩:=HD9.o.1.row (v7':=qS a7 P.es.length c7) O10 (jS G10) (by decide) 7 rfl;have y7:=C10.c.k.cell 7;have yf7:=C10.c.k.frozen 7;obtain ⟨XX,hXX⟩:∃ XX,XX=w10.setCell (qR W0.heap.size 7) (qS a7 P.es.length c7):=⟨_,rfl⟩;rw [<- hXX] at D10 P10 T10;have HD10:=zh (xA D10 (xA P10 (xA (cH T10 HD9.o.1.c.k HD9.o.2.1 (by decide)) (xA (cH T10 HD9.o.1.c.k HD9.o.2.2.1 (by decide)) (cH T10 HD9.o.1.c.k HD9.o.2.2.2 (by decide))))));obtain ⟨x0,x1,x2,x3,x4,x5,x6,x7⟩:=Blk.eight' D10.c.k;have HXE:=zh hXX;have bXX:qY XX (XX.alloc (.cells (qM P.nm t1 P.tz.length e1 a2 bl.length c2 a3 P.dz.length c3 P.bss a5 P.rz.length c5 a6 P.ss.length c6 a7 P.es.length c7) 138)):=bal;have hsX:=xM HO.o.2.2.size D10.c.b.size;have HOWX:=zh (aGp hl' (HO.o.1.bw (D10.c.b.trans (bXX.mono D10.c.b.size))).o);have HNWX:=zh (bJ XX (qM P.nm t1 P.tz.length e1 a2 bl.length c2 a3 P.dz.length c3 P.bss a5 P.rz.length c5 a6 P.ss.length c6 a7 P.es.length c7) 138 (clB (P,(⟨t1,e1,a2,c2,bl,a3,c3,a5,c5,a6,c6,a7,c7⟩:Mb))) rfl);have hwr:=xM HC.o.c.b.size (Nat.le_refl wr.heap.size);have HMO:=zh (HD10.o.1.done HBB.o HRR.o.d.2 HD10.o.2.2.2.2 HC.o.c.b.size HD10.o.2.2.2.1 HD7.o.1.c.b.size HD10.o.2.2.1 HD8.o.1.c.b.size HD10.o.2.1 HD9.o.1.c.b.size HAP.o);have HPU:=zh (fun (v':Value) (w4:qw) hown hgr=>xA (HO.o.1.push (x:=(P,(⟨t1,e1,a2,c2,bl,a3,c3,a5,c5,a6,c6,a7,c7⟩:Mb))) (v':=v') (w4:=w4) hl' HD10.o.1.c.b HMO.o HRR.o bXX hown hgr) (aEm HO.o.1 HO.o.2.2 (HD10.o.1.c.b.trans (bXX.mono HD10.o.1.c.b.size)) hgr));clear C10 D10 P10 T10 hXX O10 G10 r7 bXX hwr)
      | (at_builtin;refine wpList_append_own _ rfl _ _ 36 rfl w.heap.size 138 iM _ 8 _ Tryz.underlying36 hiM hiM0 hiM1 hiM2 rfl (by decide) (qS av j cv) j (L'.flatMap clB) rfl HOWX.o (qR XX.heap.size 0) 1 1 (clB (P,(⟨t1,e1,a2,c2,bl,a3,c3,a5,c5,a6,c6,a7,c7⟩:Mb))) rfl rfl HNWX.o (by intro u hu;simp [clB,clH,hdP] at hu;rcases hu with rfl|rfl|rfl|rfl|rfl|rfl|rfl|rfl<;>rfl) (by unfold maxLen;omega) (by omega) (by simp;omega) ?_;intro v' w4 hown hgr _;have HP:=zh (HPU.o v' w4 hown hgr);clear hown hgr HPU HOWX HNWX x0 x1 x2 x3 x4 x5 x6 x7)
      | rw [<- HX7.o]|rw [<- HX8.o]|rw [<- HX9.o]|rw [<- HXE.o])
     go_roundw
     .exact ⟨j+1,by omega,by go_num,_,_,HP.o.1,by rw [List.map_append,HO.o.2.1,lP HXX.o];rfl,HP.o.2⟩
     .simp [qf,intOf];omega
  .have hlt':¬ (j:Int)<(n:Int):=by omega
   obtain rfl:j=n:=by omega
   rw [<- hl,List.take_length] at hL;have HO:=zh (xA O (xA hL B));clear O hL B;go_wp2;go_ret;exact ⟨av,cv,L',β',rfl,HO.o.1,HO.o.2.1,HO.o.2.2⟩
end Go.Proofs.YtncccmeomcaabaaGreat
namespace Go.Proofs.YtncccmeomcaabaaGreat
open Go.ChangeShapes Go.WideShapes Go.ChangeAt Go.RowKit Classical
theorem aN7 {α:Type}{cs:Array α}(h:cs.size=3):∃ c0 c1 c2,cs=#[c0,c1,c2]:=by
 obtain ⟨l⟩:=cs
 match l,h with
 | [c0,c1,c2],_=>exact ⟨c0,c1,c2,rfl⟩
set_option maxRecDepth 100000 in
theorem aCz {H:Type}{enc:TypeId×Value->H}{w:qw}{base b0:Nat}{spare:Nat->Bool}{held:Bool}{r:Reach}{v:Value}{d:DataW H}{p:List MemPlace}
 (hv:Value.okWide Tryz.prog w r b0 56 v) (h:DataW.Trod enc Tryz.prog w base spare held 56 v d p):
 ∃ (o d a:Int),v=.agg (qT o d a):=by
 obtain ⟨cs,rfl,hsz⟩:=okWide_struct Tryz.underlying56 hv;obtain ⟨c0,c1,c2,rfl⟩:=aN7 (hsz.trans (by kernel_rfl));obtain ⟨fuel,hf⟩:=h;obtain ⟨xs,n,_,_,hl,hlen,hf⟩:=DataW.trod_struct Tryz.underlying56 hf
 match xs,hlen with
 | [y0,y1,y2],_=>
 have k0:=hf 0 _ rfl;have k1:=hf 1 _ rfl;have k2:=hf 2 _ rfl;have e3:Tryz.prog.cellsOf 3=1:=by kernel_rfl
 simp [Value.cells,e3] at k0 k1 k2;obtain ⟨a0,h0,_,wa⟩:=DataW.trod_int Tryz.underlying3 k0;obtain ⟨a1,h1,_,wb⟩:=DataW.trod_int Tryz.underlying3 k1;obtain ⟨a2,h2,_,wc⟩:=DataW.trod_int Tryz.underlying3 k2;simp at h0 h1 h2;subst h0 h1 h2;exact ⟨a0,a1,a2,rfl⟩
set_option maxRecDepth 100000 in
theorem nY:joinedFacts Tryz.pinned.checked.prog 6 Tryz.f6 Rows.fnExactCallSpec Rows.fnExactCallRow=true:=by
 unfold joinedFacts;simp only [Bool.and_eq_true]
 repeat' apply xA
 all_goals (as_aux_lemma=>kernel_rfl)
theorem oN:Tryz.pinned.checked.prog.funcNamed Rows.fnExactCallRow.func=some 6:=by kernel_rfl
