import Derived.Test.YtcimaholejajpaaGreatF21
import Derived.Test.YtcimaholejajpaaGreatF26
set_option linter.all false
set_option maxHeartbeats 8000000
namespace Go.Proofs.YtcimaholejajpaaGreat
open Go.RowKit
open Go.Proofs.Tryz
set_option maxRecDepth 100000
variable {L:Lay}{a:Act}{b cd:Int}{i j k t:Nat}{listed:Array Bool}{ps:List PMod}{v:Value}{xs:List FrT}
theorem Blk.c2 {w:qw}{b:Nat}{t:TypeId}{v0 v1 v2 v3 v4 v5 v6 v7:Value}(h:Blk w b #[v0,v1,v2,v3,v4,v5,v6,v7] t):w.cell? (qR b 2)=some v2:=h.cell 2
theorem aIt {m:Int}(h:∀ t:Nat,t<(slF L b).length->(plR ps L m b ((slF L b).getD t 0)).length<=8):F2 ps L m b:=fun s hs=>by
 obtain ⟨k,hk,e⟩:=aG2 ((aC7 L b s).2 hs);rw [<- e];exact h k hk
theorem aL0 (h:t<(slF L b).length):sOk L b ((slF L b).getD t 0):=(aC7 L b _).1 (vD h)
theorem lR (a:qO)(n cap:Nat)(ms:List Md)(L:Lay)(a0:qO)(c0:Nat)(xs:List PB)(a2:qO)(c2:Nat)(a5:qO)(c5:Nat)(ts:List TB)(w:qw)(h:MSD w a n cap ms)(hL:LyT w L a0 c0 xs a2 c2 a5 c5 ts)(hk:Lok (aF ms) L):
 qC 25 #[qS a n cap,.agg (qJ L a0 xs c0 a2 c2 a5 ts c5)] w fun e w'=>∃ r:Bool,e=.returned (.bool r)/\(r=true ↔ kJ (aF ms) L)/\qY w w':=by
 obtain ⟨V,hV⟩:=eqx (w.alloc (.cells (qJ L a0 xs c0 a2 c2 a5 ts c5) 64));have hB:qY w V:=by rw [hV];exact bal
 have k0:Blk V w.heap.size (qJ L a0 xs c0 a2 c2 a5 ts c5) 64:=by rw [hV];exact Blk.new w _ _
 have HBV:=zh hB;have HM:=zh (h.bw hB);have HL2:=zh (hL.bw hB);have HV:=zh hV;have HK:=zh k0;have hn:=h.s.1;have hmx:=h.s.2.1;have hlx:=hL.s.2.1;unfold maxLen at hmx hlx;have HKX:Zh (∀ X,qY V X->X.cell? (qR w.heap.size 0)=some (qS a0 xs.length c0)/\X.cell? (qR w.heap.size 1)=some (qI L.stack)/\X.cell? (qR w.heap.size 2)=some (qS a2 L.slots.length c2)/\X.cell? (qR w.heap.size 3)=some (qI L.flash)/\X.cell? (qR w.heap.size 4)=some (qI L.ram)/\X.cell? (qR w.heap.size 5)=some (qS a5 ts.length c5)):=fun X hz=>(HK.o.bw hz).ly6;have HX:Zh (∀ X,qY V X->qY w X):=fun X hz=>HBV.o.trans (hz.mono HBV.o.size);have HC:=zh hk;have HPO:Zh (∀ X (m b s:Int),qY V X->(0<=m/\m<(n:Int))->(b=-1\/(0<=b/\b<((ms.getD m.toNat zMd).bn:Int)))->sOk L b s->qC 57 #[qS a n cap,.agg (qJ L a0 xs c0 a2 c2 a5 ts c5),.agg (qT m b 0),qI s] X (fun e w'=>∃ A k c,e=.returned (.tuple #[qS A k c,.bool (decide ((plR (aF ms) L m b s).length<=8))])/\qY X w'/\qY V w')):=fun X m b s hz hm hb hs=>(aB3 a n cap ms L a0 c0 xs a2 c2 a5 c5 ts m b 0 s X (HM.o.bw hz) (HL2.o.bw hz) hk ((wI HM.o m b).2 ⟨hm,hb⟩) hs.fit).mono fun e w' ⟨A,k,c,he,_,hbb⟩=>⟨A,k,c,he,hbb,hz.trans (hbb.mono hz.size)⟩;have HSF:Zh (∀ X (b:Int),qY V X->qC 56 #[.agg (qJ L a0 xs c0 a2 c2 a5 ts c5),qI b] X (fun e w'=>∃ ra rn rc,e=.returned (qS ra rn rc)/\IS w' ra rn rc (slF L b)/\qY X w'/\qY V w')):=fun X b hz=>(vT L a0 c0 xs a2 c2 a5 c5 ts b X (HL2.o.bw hz) (aE7 hk)).mono fun e w' ⟨ra,rn,rc,he,hi,hbb⟩=>⟨ra,rn,rc,he,hi,hbb,hz.trans (hbb.mono hz.size)⟩;clear hV k0 h hL hB hk;go_enter func25,ntmps25
 go_wp2_with (rw [<- HV.o])
 clear HV;go_loopw [14] (fun i wr=>∃ m:Nat,m<=n/\i=qI m/\(∀ m':Nat,m'<m->∀ b:Int,(b=-1\/(0<=b/\b<((ms.getD m' zMd).bn:Int)))->F2 (aF ms) L m' b)/\qY V wr) (qf n)
 .exact ⟨0,xC _,rfl,fun m' hm'=>absurd hm' (Nat.not_lt_zero _),brf⟩
 .obtain ⟨m,hm,rfl,hF,hB⟩:=hrel;have HF:=zh hF;have HB:=zh hB;clear hF hB;by_cases hlt:m<n
  .have hlt':(m:Int)<(n:Int):=by omega
   obtain ⟨gm,om,rfl,v0,v1,v2,v3,v4,v5,v6,v7⟩:=HM.o.s.at m hlt
   have hbx:(ms.getD m zMd).bn<=9223372036854775806:=by
    have h1:=(jG HC.o).v m (by rw [bQ,hn];exact hlt);rw [cD (by rw [hn];exact hlt)] at h1;have h2:=(bS h1).2.2.2.1;have h3:=(HM.o.d m hlt).b.1;simp only [Md.pm,xH] at h2;omega
   obtain ⟨M,hM⟩:=eqx (ms.getD m zMd);have HME:=zh hM;rw [<- hM] at v0 v1 v2 v3 v4 v5 v6 v7 hbx;clear hM;obtain ⟨bn,hbn⟩:=eqx (M.bn);have HBN:=zh (show bn=(ms.getD m zMd).bn by rw [hbn,HME.o]);rw [<- hbn] at v2 hbx;clear hbn;have u0:=aE HB.o v0;have u1:=aE HB.o v1;have u2:=aE HB.o v2;have u3:=aE HB.o v3;have u4:=aE HB.o v4;have u5:=aE HB.o v5;have u6:=aE HB.o v6;have u7:=aE HB.o v7;clear v0 v1 v2 v3 v4 v5 v6 v7;generalize wr=wo at *;obtain ⟨V2,hV2⟩:=eqx (wo.alloc (.cells (qM M.nm M.ta M.tn M.tc M.ba bn M.bc M.da M.dn M.dc M.bss M.ra M.rn M.rc M.ia M.im M.ic M.ea M.en M.ec) 53));have HBV2:=zh (show qY V V2 by rw [hV2];exact HB.o.alloc HB.o.size _);have HKM:=zh (show Blk V2 wo.heap.size (qM M.nm M.ta M.tn M.tc M.ba bn M.bc M.da M.dn M.dc M.bss M.ra M.rn M.rc M.ia M.im M.ic M.ea M.en M.ec) 53 by rw [hV2];exact Blk.new _ _ _);have HV2:=zh hV2;clear hV2;go_wp2_with (rw [<- HV2.o])
   clear u0 u1 u2 u3 u4 u5 u6 u7;go_loopw [7] (fun i wr=>∃ q:Nat,q<=bn+1/\i=qI ((q:Int)-1)/\(∀ b:Int,-1<=b->b<(q:Int)-1->F2 (aF ms) L m b)/\Blk wr wo.heap.size (qM M.nm M.ta M.tn M.tc M.ba bn M.bc M.da M.dn M.dc M.bss M.ra M.rn M.rc M.ia M.im M.ic M.ea M.en M.ec) 53/\qY V wr) (fun i _=>bn+1-(intOf i+1).toNat)
   .exact ⟨0,xC _,rfl,fun b h1 h2=>by omega,HKM.o,HBV2.o⟩
   .obtain ⟨q,hq,rfl,hF2,hkm,hB3⟩:=hrel;have HF2:=zh hF2;have HK3:=zh hkm;have HB3:=zh hB3;have y2:=hkm.c2;clear hF2 hB3 hkm;by_cases hq2:q<bn+1
    .have hq2':(q:Int)-1<(bn:Int):=by omega
     obtain ⟨b,hb⟩:∃ b:Int,b=(q:Int)-1:=⟨_,rfl⟩;rw [<- hb] at hq2' ⊢;have hb0:-1<=b:=by omega
     have HBB:=zh hb
     have HBQ:=zh (show b=-1\/(0<=b/\b<((ms.getD ((m:Int)).toNat zMd).bn:Int)) from by
      rw [xY,<- HBN.o]
      omega)
     clear hb;generalize wr=wp at *;have HS1:=zh (HSF.o wp b HB3.o);obtain ⟨z0,z1,z2,z3,z4,z5⟩:=HKX.o _ HB3.o;go_wp2_with fail
     refine HS1.o.mono ?_;rintro e X4 ⟨ra,rn,rc,rfl,hI,hbx4,hb4⟩;have HI4:=zh hI;have HK4:=zh (HK3.o.bw hbx4);have HB4:=zh hb4;have hrx:=hI.2.1;unfold maxLen at hrx;clear hI hbx4 hb4 HS1 z0 z1 z2 z3 z4 z5 y2;go_wp2_with fail
     go_loopw [30] (fun i wr=>∃ t:Nat,t<=rn/\i=qI t/\(∀ s':Nat,s'<t->(plR (aF ms) L m b ((slF L b).getD s' 0)).length<=8)/\IS wr ra rn rc (slF L b)/\Blk wr wo.heap.size (qM M.nm M.ta M.tn M.tc M.ba bn M.bc M.da M.dn M.dc M.bss M.ra M.rn M.rc M.ia M.im M.ic M.ea M.en M.ec) 53/\qY V wr) (qf rn)
     .exact ⟨0,xC _,rfl,fun s' hs'=>absurd hs' (Nat.not_lt_zero _),HI4.o,HK4.o,HB4.o⟩
     .obtain ⟨t,ht,rfl,hG,hI5,hk5,hB5⟩:=hrel;have HG:=zh hG;have HI5:=zh hI5;have HK5:=zh hk5;have HB5:=zh hB5;clear hG hk5 hB5;by_cases ht2:t<rn
      .have ht2':(t:Int)<(rn:Int):=by omega
       obtain ⟨rb,ro,rfl,hcc⟩:=hI5.2.2.2.1 (by omega);have r0:=hcc t ht2;have HSO:=zh (aL0 (L:=L) (b:=b) (t:=t) (by rw [hI5.1];exact ht2));have HP3:=zh (HPO.o wr m b ((slF L b).getD t 0) HB5.o (by omega) HBQ.o HSO.o);obtain ⟨z0,z1,z2,z3,z4,z5⟩:=HKX.o _ HB5.o;obtain ⟨sv,hsv⟩:=eqx ((slF L b).getD t 0);rw [<- hsv] at r0 HP3 HSO;have HSV:=zh hsv;clear hcc hI5 hsv;go_wp2_with fail
       refine HP3.o.mono ?_;rintro e X6 ⟨A3,k3,c3',rfl,hbx6,hb6⟩;have HB6:=zh (xA hbx6 hb6);clear hbx6 hb6 HP3 z0 z1 z2 z3 z4 z5 r0;by_cases h83:(plR (aF ms) L m b sv).length<=8
       .rw [xR h83]
        have HN:=zh (show ∀ s':Nat,s'<t+1->(plR (aF ms) L m b ((slF L b).getD s' 0)).length<=8 from fun s' hs'=>by
         by_cases e:s'=t
         .rw [e,<- HSV.o];exact h83
         .exact HG.o s' (by omega))
        clear h83;go_wp2
        go_roundw
        .exact ⟨t+1,by omega,by go_num,HN.o,HI5.o.bw HB6.o.1,HK5.o.bw HB6.o.1,HB6.o.2⟩
        .simp [qf,intOf];omega
       .rw [xS h83];have HNO:=zh (yS HM.o (m:=(m:Int)) (b:=b) (s:=sv) (by omega) HBQ.o HSO.o h83);clear h83;go_wp2;go_ret;exact ⟨false,rfl,by simp [HNO.o],HX.o _ HB6.o.2⟩
      .have HN:=zh (show ∀ b':Int,-1<=b'->b'<((q+1:Nat):Int)-1->F2 (aF ms) L m b' from fun b' h1 h2=>by
        by_cases e:b'=b
        .rw [e];exact aIt (fun t' ht'=>HG.o t' (by rw [HI5.o.1] at ht';omega))
        .exact HF2.o b' h1 (by have:=HBB.o;omega))
       have HBE:=zh (show b+1=((q+1:Nat):Int)-1 by have:=HBB.o;omega);clear hI5;go_wp2
       go_roundw
       .exact ⟨q+1,by omega,by rw [HBE.o],HN.o,HK5.o,HB5.o⟩
       .have:=HBB.o;simp [qf,intOf];omega
    .have HN:=zh (show ∀ m':Nat,m'<m+1->∀ b:Int,(b=-1\/(0<=b/\b<((ms.getD m' zMd).bn:Int)))->F2 (aF ms) L m' b from fun m' hm' b hb=>by
      by_cases e:m'=m
      .subst e;rw [<- HBN.o] at hb;exact HF2.o b (by omega) (by omega)
      .exact HF.o m' (by omega) b hb)
     have hq3:(q:Int)-1=(bn:Int):=by omega
     rw [hq3];go_wp2
     go_roundw
     .exact ⟨m+1,by omega,by go_num,HN.o,HB3.o⟩
     .simp [qf,intOf];omega
  .have HN:=zh (aD5 HM.o HC.o (fun m' hm'=>HF.o m' (by omega)));go_wp2;go_ret;exact ⟨true,rfl,by simp [HN.o],HX.o _ HB.o⟩
theorem aFg (g n cp:Nat)(gs cz:List Nat)(bl:List Bk)(s c k d:Int)(w:qw)(H:Img w g n cp gs cz bl)(hn:n<=1048576):
 qC 6 #[qS (qP g) n cp,.agg (qW s c k d)] w (LdP w (zsL bl) n s c k d (fun v _=>v=qS none 0 0)):=by
 obtain ⟨V,hV⟩:=eqx ((w.alloc (.cells (qW s c k d) 25)).alloc (.cells qZ 37));have bV:qY w V:=by rw [hV];exact bal.alloc (by simp) _
 have k0:Blk V w.heap.size (qW s c k d) 25:=by rw [hV];exact (Blk.new w _ _).alloc _
 have k1:Blk V (w.heap.size+1) z15 37:=by rw [hV];have:=Blk.new (w.alloc (.cells (qW s c k d) 25)) z15 37;simpa [z15] using this
 have CC:=zh (kY s c k d V);have H1:=H.bw bV;obtain ⟨u0,u1,u2,u3⟩:=show V.cell? ⟨w.heap.size,0,none⟩=some (qI s)/\V.cell? ⟨w.heap.size,1,none⟩=some (qI c)/\V.cell? ⟨w.heap.size,2,none⟩=some (qI k)/\V.cell? ⟨w.heap.size,3,none⟩=some (qI d) from ⟨k0.cell 0,k0.cell 1,k0.cell 2,k0.cell 3⟩;have HV:=zh hV;have HK:=zh (xA bV (xA k0 (xA k1 H1)))
 have HF:=zh (show ∀ (X:qw),qY V X->∀ (cd:Int) (at':Nat),ldc (zsL bl) n s c k d=(cd,at')->cd≠0->LdP w (zsL bl) n s c k d (fun v _=>v=qS none 0 0) (.returned (.tuple #[.agg qZ,qI cd,qI (at':Nat)])) (jE X (w.heap.size+1) (qS none 0 0) (qI 0) (qI 0) (qI 0) (qI 0) (qI 0) (qS none 0 0) (qS none 0 0) (qS none 0 0) (qS none 0 0) (qI 0) (qI 0) (qS none 0 0) (qS none 0 0) (qI 0)) from fun X hX cd at' e1 e2=>by
  refine ⟨aI (bV.trans (hX.mono bV.size)) (cP X (w.heap.size+1) _ _ _ _ _ _ _ _ _ _ _ _ _ _ _) (fun j hj=>by omega) (xM bV.size hX.size),.inl ⟨by rw [e1];exact e2,by rw [e1];rfl⟩⟩)
 clear hV bV k0 k1 H H1;go_enter func6,ntmps6
 go_wp2_with (rw [<- HV.o])
 refine CC.o.mono ?_;rintro e w1 ⟨rfl,b1⟩;have K1:=HK.o.2.2.1.bw b1;unfold z15 at K1;obtain ⟨c0,c1,c2,c3,c4,c5,c6,c7,c8,c9,c10,c11,c12,c13,c14⟩:=K1.mc;have f0:=K1.frozen 0;have f1:=K1.frozen 1;have f2:=K1.frozen 2;have f3:=K1.frozen 3;have f4:=K1.frozen 4;have f5:=K1.frozen 5;have f6:=K1.frozen 6;have f7:=K1.frozen 7;have f8:=K1.frozen 8;have f9:=K1.frozen 9;have f10:=K1.frozen 10;have f11:=K1.frozen 11;have f12:=K1.frozen 12;have f13:=K1.frozen 13;have f14:=K1.frozen 14;have HB1:=zh b1;clear u0 u1 u2 u3 K1 b1 CC;cases hcf:cfo s c k d
 .have HC:=zh hcf;clear hcf;go_wp2;refine lF (HK.o.2.2.1.bw HB1.o) _ _ _ _ _ _ _ _ _ _ _ _ _ _ _ _ _ rfl rfl rfl ?_;exact HF.o w1 HB1.o 1 0 (by unfold ldc;rw [if_pos HC.o]) (by decide)
 have HC:=zh hcf;clear hcf;by_cases hn1:n<1\/4<n
 .have HN:=zh hn1;rcases hn1 with h|h
  .have h':(n:Int)<1:=by omega
   go_wp2;refine lF (HK.o.2.2.1.bw HB1.o) _ _ _ _ _ _ _ _ _ _ _ _ _ _ _ _ _ rfl rfl rfl ?_;exact HF.o w1 HB1.o 2 0 (by unfold ldc;rw [if_neg (by rw [HC.o];decide),if_pos HN.o]) (by decide)
  .have h':¬ (n:Int)<1:=by omega
   have h2:(4:Int)<(n:Int):=by omega
   go_wp2;refine lF (HK.o.2.2.1.bw HB1.o) _ _ _ _ _ _ _ _ _ _ _ _ _ _ _ _ _ rfl rfl rfl ?_;exact HF.o w1 HB1.o 2 0 (by unfold ldc;rw [if_neg (by rw [HC.o];decide),if_pos HN.o]) (by decide)
 have h1:¬ (n:Int)<1:=by omega
 have h2:¬ (4:Int)<(n:Int):=by omega
 have HN:=zh hn1;have CP:=zh (wJ g n cp gs cz bl w1 (HK.o.2.2.2.bw HB1.o) (by omega));clear hn1 c0 f0 c1 f1 c2 f2 c3 f3 c4 f4 c5 f5 c6 f6 c7 f7 c8 f8 c9 f9 c10 f10 c11 f11 c12 f12 c13 f13 c14 f14;go_wp2_with fail
 refine CP.o.mono ?_;intro e w2 hP;obtain ⟨b2,hP⟩:=hP;have HB2:=zh (HB1.o.trans (b2.mono HB1.o.size));have K1:=HK.o.2.2.1.bw HB2.o;unfold z15 at K1;obtain ⟨c0,c1,c2,c3,c4,c5,c6,c7,c8,c9,c10,c11,c12,c13,c14⟩:=K1.mc;have f0:=K1.frozen 0;have f1:=K1.frozen 1;have f2:=K1.frozen 2;have f3:=K1.frozen 3;have f4:=K1.frozen 4;have f5:=K1.frozen 5;have f6:=K1.frozen 6;have f7:=K1.frozen 7;have f8:=K1.frozen 8;have f9:=K1.frozen 9;have f10:=K1.frozen 10;have f11:=K1.frozen 11;have f12:=K1.frozen 12;have f13:=K1.frozen 13;have f14:=K1.frozen 14;clear K1 CP;rcases hP with ⟨i,hi,hp,hk,rfl⟩|⟨hz,a,cap,Lm,β,rfl,O2,hL⟩
 .have HP:=zh (show ldc (zsL bl) n s c k d=(10+pcd (zsL bl) i,i) by unfold ldc;rw [if_neg (by rw [HC.o];decide),if_neg HN.o,sO hp hk n hi]);have hi4:i<=4:=by omega
  have hr:=jT (zsL bl) i;clear hk;generalize pcd (zsL bl) i=pc at *;go_wp2;refine lF (HK.o.2.2.1.bw HB2.o) _ _ _ _ _ _ _ _ _ _ _ _ _ _ _ _ _ rfl rfl rfl ?_;exact HF.o w2 HB2.o (10+pc) i HP.o (by omega)
 clear c0 f0 c1 f1 c2 f2 c3 f3 c4 f4 c5 f5 c6 f6 c7 f7 c8 f8 c9 f9 c10 f10 c11 f11 c12 f12 c13 f13 c14 f14;have hlen:Lm.length=n:=by have:=congrArg List.length hL;simpa [pal] using this
 have hps:aF (Lm.map mdP)=pal (zsL bl) n:=O2.pms.trans hL;obtain ⟨a',cap',ev,M2⟩:=O2.msd (by omega);rw [hlen] at ev M2;simp only [Value.slice.injEq] at ev;obtain ⟨rfl,-,rfl⟩:=ev;have CL:=zh (nJ a n cap (Lm.map mdP) s c k d w2 M2);rw [hps] at CL;have HPS:=zh hps;have HM2:=zh (xA M2 (xA O2 hL));have HZ:Zh (fnz (pcd (zsL bl)) n=none):=mK n hz;have HLB:=zh (mE (pal (zsL bl) n) s c k d);have HLV:=zh (aAr (pal (zsL bl) n) s c k d);have hlr:=nE (pal (zsL bl) n) s c k d;have HLK:=zh (fun h:lkc (pal (zsL bl) n) s c k d=0=>xA (xV h) (show lkL (pal (zsL bl) n) s c k d=lay (pal (zsL bl) n) s c k by unfold lkL;rw [if_pos h]));have HE4:Zh (lkc (pal (zsL bl) n) s c k d≠0->ldc (zsL bl) n s c k d=(40+lkc (pal (zsL bl) n) s c k d,0)):=fun h=>by unfold ldc;rw [if_neg (by rw [HC.o];decide),if_neg HN.o,HZ.o];dsimp only;rw [if_pos h]
 have HE6:Zh (lkc (pal (zsL bl) n) s c k d=0->¬ kJ (pal (zsL bl) n) (lay (pal (zsL bl) n) s c k)->ldc (zsL bl) n s c k d=(60,0)):=fun h h2=>by unfold ldc;rw [if_neg (by rw [HC.o];decide),if_neg HN.o,HZ.o];dsimp only;rw [if_neg (by rw [h];decide),if_neg h2]
 have HE0:Zh (lkc (pal (zsL bl) n) s c k d=0->kJ (pal (zsL bl) n) (lay (pal (zsL bl) n) s c k)->ldc (zsL bl) n s c k d=(0,0)):=fun h h2=>by unfold ldc;rw [if_neg (by rw [HC.o];decide),if_neg HN.o,HZ.o];dsimp only;rw [if_neg (by rw [h];decide),if_pos h2]
 unfold LkM at CL;generalize lkc (pal (zsL bl) n) s c k d=cd at *;have Q0:=HK.o.2.1.bw HB2.o;obtain ⟨u0,u1,u2,u3⟩:=show w2.cell? ⟨w.heap.size,0,none⟩=some (qI s)/\w2.cell? ⟨w.heap.size,1,none⟩=some (qI c)/\w2.cell? ⟨w.heap.size,2,none⟩=some (qI k)/\w2.cell? ⟨w.heap.size,3,none⟩=some (qI d) from ⟨Q0.cell 0,Q0.cell 1,Q0.cell 2,Q0.cell 3⟩;have HSB:=zh b2;clear Q0 M2 O2 hL hps hz b2;go_wp2_with fail
 refine CL.o.mono ?_;rintro e w3 ⟨b3,a0,d0,xs,a2,d2,a5,d5,ts,rfl,O3⟩;have HO3:=zh (O3.lyt HLB.o.r HLV.o);have HB3:=zh (HB2.o.trans (b3.mono HB2.o.size));have HB23:=zh b3;clear O3 b3 CL u0 u1 u2 u3;unfold mC;by_cases hcd:cd=0
 rotate_left
 .generalize lkL (pal (zsL bl) n) s c k d=Ly at *;have b4:qY w3 (w3.alloc (.cells (qL Ly a0 xs.length d0 a2 Ly.slots.length d2 a5 ts.length d5) 64)):=bal;have B4:=HB3.o.trans (b4.mono HB3.o.size);have K1:=HK.o.2.2.1.bw B4;unfold z15 at K1;obtain ⟨c0,c1,c2,c3,c4,c5,c6,c7,c8,c9,c10,c11,c12,c13,c14⟩:=K1.mc;have f0:=K1.frozen 0;have f1:=K1.frozen 1;have f2:=K1.frozen 2;have f3:=K1.frozen 3;have f4:=K1.frozen 4;have f5:=K1.frozen 5;have f6:=K1.frozen 6;have f7:=K1.frozen 7;have f8:=K1.frozen 8;have f9:=K1.frozen 9;have f10:=K1.frozen 10;have f11:=K1.frozen 11;have f12:=K1.frozen 12;have f13:=K1.frozen 13;have f14:=K1.frozen 14;clear K1;have HB4:=zh B4;clear B4 b4;go_wp2;refine lF (HK.o.2.2.1.bw HB4.o) _ _ _ _ _ _ _ _ _ _ _ _ _ _ _ _ _ rfl rfl rfl ?_;exact HF.o _ HB4.o (40+cd) 0 (HE4.o hcd) (by omega)
 subst hcd;obtain ⟨hlo,hlk⟩:=HLK.o rfl;rw [hlk] at HO3 HLB HLV;rw [hlk];have HLO:=zh hlo;have HE60:=zh (HE6.o rfl);have HE00:=zh (HE0.o rfl);clear hlo hlk HLK HE4 HE6 HE0;generalize hLy:lay (pal (zsL bl) n) s c k=Ly at *;have HLy:=zh hLy;clear hLy;obtain ⟨w4,hw4,b4,k4⟩:=nwb w3 (qL Ly a0 xs.length d0 a2 Ly.slots.length d2 a5 ts.length d5) 64;have B4:=HB3.o.trans (b4.mono HB3.o.size);have B24:=HB23.o.trans (b4.mono HB23.o.size);have CF:=zh (lR a n cap (Lm.map mdP) Ly a0 d0 xs a2 d2 a5 d5 ts w4 (HM2.o.1.bw B24) (HO3.o.bw b4) (by rw [HPS.o];exact HLO.o));rw [HPS.o] at CF;obtain ⟨p0,p1,p2,p3,p4,p5⟩:=k4.ly6;have HK4:=zh (xA B4 (xA B24 (xA k4 (HO3.o.bw b4))));have HW4:=zh hw4;clear hw4 b4 k4 B4 B24;go_wp2_with (rw [<- HW4.o])
 refine CF.o.mono ?_;rintro e w5 ⟨fb,rfl,hf,b5⟩;obtain ⟨B4,B24,k4,y4⟩:=HK4.o;have B5:=B4.trans (b5.mono B4.size);have B25:=B24.trans (b5.mono B24.size);have HK5:=zh (xA B5 (xA B25 (xA (k4.bw b5) (y4.bw b5))));clear p0 p1 p2 p3 p4 p5 b5 B4 B24 k4 y4 B5 B25 HK4 CF;cases fb with
 | false=>
   have HFb:=zh (HE60.o (fun q=>by simpa using hf.2 q));clear hf;have K1:=HK.o.2.2.1.bw HK5.o.1;unfold z15 at K1;obtain ⟨c0,c1,c2,c3,c4,c5,c6,c7,c8,c9,c10,c11,c12,c13,c14⟩:=K1.mc;have f0:=K1.frozen 0;have f1:=K1.frozen 1;have f2:=K1.frozen 2;have f3:=K1.frozen 3;have f4:=K1.frozen 4;have f5:=K1.frozen 5;have f6:=K1.frozen 6;have f7:=K1.frozen 7;have f8:=K1.frozen 8;have f9:=K1.frozen 9;have f10:=K1.frozen 10;have f11:=K1.frozen 11;have f12:=K1.frozen 12;have f13:=K1.frozen 13;have f14:=K1.frozen 14;clear K1;go_wp2;refine lF (HK.o.2.2.1.bw HK5.o.1) _ _ _ _ _ _ _ _ _ _ _ _ _ _ _ _ _ rfl rfl rfl ?_;exact HF.o _ HK5.o.1 60 0 HFb.o (by decide)
 | true=>
   have HFb:=zh (HE00.o (hf.1 rfl));clear hf;have hcf:=HC.o;unfold cfo at hcf;simp at hcf;have hs0:0<=s:=by omega
   have hs4:s.toNat<=4:=by omega
   obtain ⟨B5,B25,k5,y5⟩:=HK5.o;have CN:=zh (rQ a n cap (Lm.map mdP) Ly a0 d0 xs a2 d2 a5 d5 ts s.toNat c k d w5 (HM2.o.1.bw B25) y5 (by rw [HPS.o];exact HLO.o) hs4);unfold NmP at CN;rw [HPS.o,Int.toNat_of_nonneg hs0] at CN;obtain ⟨p0,p1,p2,p3,p4,p5⟩:=k5.ly6;have Q0:=HK.o.2.1.bw B5;obtain ⟨u0,u1,u2,u3⟩:=show w5.cell? ⟨w.heap.size,0,none⟩=some (qI s)/\w5.cell? ⟨w.heap.size,1,none⟩=some (qI c)/\w5.cell? ⟨w.heap.size,2,none⟩=some (qI k)/\w5.cell? ⟨w.heap.size,3,none⟩=some (qI d) from ⟨Q0.cell 0,Q0.cell 1,Q0.cell 2,Q0.cell 3⟩;have HNS:=zh (xA hs0 hs4);clear Q0 B5 B25 k5 y5 hcf hs0 hs4;go_wp2_with fail
   refine CN.o.mono ?_;rintro e w6 ⟨gk,a1,n1,e1,a2',n2,e2,a3,n3,e3,gl,rfl,N6,b6⟩;have B6:=HK5.o.1.trans (b6.mono HK5.o.1.size);have B26:=HK5.o.2.1.trans (b6.mono HK5.o.2.1.size);have HN6:=zh (xA B6 (xA B26 (xA N6 b6)));clear u0 u1 u2 u3 p0 p1 p2 p3 p4 p5 CN N6 b6 B26;have K1:=HK.o.2.2.1.bw B6;unfold z15 at K1;obtain ⟨c0,c1,c2,c3,c4,c5,c6,c7,c8,c9,c10,c11,c12,c13,c14⟩:=K1.mc;have f0:=K1.frozen 0;have f1:=K1.frozen 1;have f2:=K1.frozen 2;have f3:=K1.frozen 3;have f4:=K1.frozen 4;have f5:=K1.frozen 5;have f6:=K1.frozen 6;have f7:=K1.frozen 7;have f8:=K1.frozen 8;have f9:=K1.frozen 9;have f10:=K1.frozen 10;have f11:=K1.frozen 11;have f12:=K1.frozen 12;have f13:=K1.frozen 13;have f14:=K1.frozen 14;clear K1;clear B6;generalize hns:s.toNat=ns at *;have HNE:=zh hns;clear hns;go_wp2;refine lF (HK.o.2.2.1.bw HN6.o.1) _ _ _ _ _ _ _ _ _ _ _ _ _ _ _ _ _ rfl rfl rfl ?_;obtain ⟨B6,B26,N6,b6⟩:=HN6.o;obtain ⟨M2,O2,hL⟩:=HM2.o;have hq:w.heap.size+1<V.heap.size:=HK.o.2.2.1.lt;have hq1:V.heap.size<=w1.heap.size:=HB1.o.size;have hq2:V.heap.size<=w5.heap.size:=HK5.o.1.size;have h25:=HK5.o.2.1.size;have hbV:=HK.o.1;have hi:=O2.hi;have hne:=HNE.o;subst hne;rw [hlen] at hi;refine ⟨aI (hbV.trans (B6.mono hbV.size)) (cP w6 (w.heap.size+1) _ _ _ _ _ _ _ _ _ _ _ _ _ _ _) (fun j hj=>by omega) (xM hbV.size B6.size),.inr ⟨HFb.o,a,cap,Lm,β,w5.heap.size,gk,a1,n1,e1,a2',n2,e2,a3,n3,e3,gl,qS none 0 0,rfl,rfl,?_,hL,?_,?_,?_⟩⟩
   .exact ((O2.bw B26).turn (cP w6 (w.heap.size+1) _ _ _ _ _ _ _ _ _ _ _ _ _ _ _) (fun j hj=>by omega)).mono' (xM hbV.size hq1)
   .rw [HLy.o];exact N6.turn (cP w6 (w.heap.size+1) _ _ _ _ _ _ _ _ _ _ _ _ _ _ _) (fun j hj=>by omega)
   .exact xM hbV.size hq2
   .omega
def LmP (w:qw)(Lm:List (PMod×Mb))(n:Nat)(ps:List PMod)(L:Lay)(ns:Nat)(x2 x3 x4:Int)(e:Ending)(w':qw):Prop:=∃ a cap L' β' gk a1 n1 e1 a2 n2 e2 a3 n3 e3 gl gs,e=.returned (.agg #[qS a n cap,qI (ns:Nat),qI x2,qI x3,qI x4,qI 0,qS (qP gk) 8 8,qS a1 n1 e1,qS a2 n2 e2,qS a3 n3 e3,qI 0,qI (-1),qS (qP gl) ns ns,qS (qP gs) 0 0,qI 0])/\NmO w' w.heap.size ps L ns (qS (qP gk) 8 8) (qS a1 n1 e1) (qS a2 n2 e2) (qS a3 n3 e3) (qS (qP gl) ns ns)/\Blk w' gs #[] 79/\w.heap.size<=gs/\OMp w' w.heap.size (qS a n cap) L' β'/\L'.map (fun x=>x.1)=Lm.map (fun x=>x.1)/\qY w w'
theorem aJ6 {W:qw}{q:Nat}(k1:Blk W q z15 37)(v0 v1 v2 v3 v4 v5 v6 v7 v8 v9 v10 v11 v12 v13 v14:Value)(Q:Ending->World->Prop)(tmps:Array Value)(h6:tmps[6]?=some (.pointer (qP q)))(hQ:Q (.returned (.agg #[v0,v1,v2,v3,v4,v5,v6,v7,v8,v9,v10,v11,v12,v13,v14])) (jE W q v0 v1 v2 v3 v4 v5 v6 v7 v8 v9 v10 v11 v12 v13 v14)):
 bodyPost prog f21 Q Exit.ret ⟨tmps,[]⟩ (jE W q v0 v1 v2 v3 v4 v5 v6 v7 v8 v9 v10 v11 v12 v13 v14):=by
 obtain ⟨t0,t1,t2,t3,t4,t5,t6,t7,t8,t9,t10,t11,t12,t13,t14⟩:=(jM k1 v0 v1 v2 v3 v4 v5 v6 v7 v8 v9 v10 v11 v12 v13 v14).mc;refine bodyPost_ret_by (v:=(.agg #[v0,v1,v2,v3,v4,v5,v6,v7,v8,v9,v10,v11,v12,v13,v14])) ?_ rfl hQ;simp [results,results21,go_sem,h6,t0,t1,t2,t3,t4,t5,t6,t7,t8,t9,t10,t11,t12,t13,t14]
section
variable (w2:qw)(g n cap G GM q ns:Nat)(x2 x3 x4:Int)(a1:qO)(n1 e1:Nat)(a2:qO)(n2 e2:Nat)(a3:qO)(n3 e3:Nat)(Lm:List (PMod×Mb))
def PV:Nat->Value->World->Prop
 | 0,v,_=>v=qS (qP g) n cap
 | 1,v,W=>∃ a7 cap7 L7 β7,v=qS a7 n cap7/\OMp W w2.heap.size (qS a7 n cap7) L7 β7/\L7.map (fun x=>x.1)=Lm.map (fun x=>x.1)
 | 2,v,_=>v=.agg (qW (ns:Nat) x2 x3 x4)
 | 3,v,W=>∃ gk,v=qS (qP gk) 8 8/\Blk W gk in0 3/\w2.heap.size<=gk
 | 4,v,W=>∃ gk,v=.agg #[qI 0,qS (qP gk) 8 8]/\Blk W gk in0 3/\w2.heap.size<=gk
 | 5,v,_=>v=.agg (qV a1 n1 e1 a2 n2 e2 a3 n3 e3)
 | 6,v,_=>v=.pointer (qP G)
 | 7,v,_=>v=qI (ns:Nat)
 | 8,v,W=>∃ gl,v=qS (qP gl) ns ns/\Blk W gl (sl0 ns) 77/\w2.heap.size<=gl
 | 9,v,W=>∃ gs,v=qS (qP gs) 0 0/\Blk W gs #[] 79/\w2.heap.size<=gs
 | 10,v,W=>∃ a7 cap7 L7 β7 gk gl gs,v=.agg #[qS a7 n cap7,qI (ns:Nat),qI x2,qI x3,qI x4,qI 0,qS (qP gk) 8 8,qS a1 n1 e1,qS a2 n2 e2,qS a3 n3 e3,qI 0,qI (-1),qS (qP gl) ns ns,qS (qP gs) 0 0,qI 0]/\(OMp W w2.heap.size (qS a7 n cap7) L7 β7/\L7.map (fun x=>x.1)=Lm.map (fun x=>x.1))/\(Blk W gk in0 3/\w2.heap.size<=gk)/\(Blk W gl (sl0 ns) 77/\w2.heap.size<=gl)/\Blk W gs #[] 79/\w2.heap.size<=gs
 | _,_,_=>True
def aOc (W:qw):Prop:=∃ X a7 cap7 L7 β7 gk gl gs,W=jE X q (qS a7 n cap7) (qI (ns:Nat)) (qI x2) (qI x3) (qI x4) (qI 0) (qS (qP gk) 8 8) (qS a1 n1 e1) (qS a2 n2 e2) (qS a3 n3 e3) (qI 0) (qI (-1)) (qS (qP gl) ns ns) (qS (qP gs) 0 0) (qI 0)/\qY w2 X/\(OMp X w2.heap.size (qS a7 n cap7) L7 β7/\L7.map (fun x=>x.1)=Lm.map (fun x=>x.1))/\(Blk X gk in0 3/\w2.heap.size<=gk)/\(Blk X gl (sl0 ns) 77/\w2.heap.size<=gl)/\Blk X gs #[] 79/\w2.heap.size<=gs
theorem aGi {W W':qw}(h:PV w2 g n cap G ns x2 x3 x4 a1 n1 e1 a2 n2 e2 a3 n3 e3 Lm j v W)(hb:qY W W'):PV w2 g n cap G ns x2 x3 x4 a1 n1 e1 a2 n2 e2 a3 n3 e3 Lm j v W':=by
 match j with
 | 0|2|5|6|7=>exact h
 | 1=>obtain ⟨a7,cap7,L7,β7,e,o,m⟩:=h;exact ⟨a7,cap7,L7,β7,e,o.bw hb,m⟩
 | 3|4=>obtain ⟨gk,e,k,l⟩:=h;exact ⟨gk,e,k.bw hb,l⟩
 | 8=>obtain ⟨gk,e,k,l⟩:=h;exact ⟨gk,e,k.bw hb,l⟩
 | 9=>obtain ⟨gk,e,k,l⟩:=h;exact ⟨gk,e,k.bw hb,l⟩
 | 10=>obtain ⟨a7,cap7,L7,β7,gk,gl,gs,e,⟨o,m⟩,⟨k1,l1⟩,⟨k2,l2⟩,k3,l3⟩:=h;exact ⟨a7,cap7,L7,β7,gk,gl,gs,e,⟨o.bw hb,m⟩,⟨k1.bw hb,l1⟩,⟨k2.bw hb,l2⟩,k3.bw hb,l3⟩
 | _+11=>exact h
structure I10 (listed:Array Bool)(a:Act)(W:qw):Prop where
 sz:listed.size=12
 d:a.defers=[]
 s:a.tmps.size=26
 e0:a.tmps.getD 0 undef=qS (qP g) n cap
 e4:a.tmps.getD 4 undef=.pointer (qP G)
 e6:a.tmps.getD 6 undef=.pointer (qP q)
 e7:a.tmps.getD 7 undef=.pointer (qP GM)
 p:listed.getD 11 false=false->qY w2 W/\∀ j,j<11->listed.getD j false=true->PV w2 g n cap G ns x2 x3 x4 a1 n1 e1 a2 n2 e2 a3 n3 e3 Lm j (a.tmps.getD (15+j) undef) W
 c:listed.getD 11 false=true->(∀ j,j<11->listed.getD j false=true)/\aOc w2 n q ns x2 x3 x4 a1 n1 e1 a2 n2 e2 a3 n3 e3 Lm W
end
section
variable {w2:qw}{g n cap G GM q ns:Nat}{x2 x3 x4:Int}{a1:qO}{n1 e1:Nat}{a2:qO}{n2 e2:Nat}{a3:qO}{n3 e3:Nat}{Lm:List (PMod×Mb)}{listed:Array Bool}{a:Act}{W:qw}
theorem lQ {t':Nat}(h:t≠t'):(a.put (some t) v).tmps.getD t' undef=a.tmps.getD t' undef:=by
 show (a.tmps.setIfInBounds t v).getD t' undef=_;simp [Array.getElem?_setIfInBounds_ne h]
theorem aL7 (h:t<a.tmps.size):(a.put (some t) v).tmps.getD t undef=v:=by
 show (a.tmps.setIfInBounds t v).getD t undef=_;simp [h]
theorem aDp (h:(listed.setIfInBounds i true).getD j false=true):j=i\/listed.getD j false=true:=by
 by_cases e:i=j
 .exact .inl e.symm
 .rw [getD_set_ne false e] at h;exact .inr h
theorem aMl (hs:i<listed.size)(b:Bool):listed.getD i b=listed.getD i false:=by simp [hs]
theorem I10.low (h:I10 w2 g n cap G GM q ns x2 x3 x4 a1 n1 e1 a2 n2 e2 a3 n3 e3 Lm listed a W)(hi:i<12)(hl:listed.getD i true=false):listed.getD 11 false=false:=by
 rw [aMl (by rw [h.sz];exact hi)] at hl;cases e:listed.getD 11 false with
 | false=>rfl
 | true=>
   by_cases e2:i=11
   .subst e2;rw [e] at hl;cases hl
   .have:=(h.c e).1 i (by omega);rw [hl] at this;cases this
theorem I10.next (h:I10 w2 g n cap G GM q ns x2 x3 x4 a1 n1 e1 a2 n2 e2 a3 n3 e3 Lm listed a W)(hi:i<11)(hl:listed.getD i true=false)(v:Value)(W':qw)(hb:qY W W')(hp:PV w2 g n cap G ns x2 x3 x4 a1 n1 e1 a2 n2 e2 a3 n3 e3 Lm i v W'):I10 w2 g n cap G GM q ns x2 x3 x4 a1 n1 e1 a2 n2 e2 a3 n3 e3 Lm (listed.setIfInBounds i true) (a.put (some (15+i)) v) W':=by
 have hlow:=h.low (by omega) hl;refine ⟨by simp [h.sz],h.d,by show (a.tmps.setIfInBounds _ _).size=26;simp [h.s],by rw [lQ (by omega)];exact h.e0,by rw [lQ (by omega)];exact h.e4,by rw [lQ (by omega)];exact h.e6,by rw [lQ (by omega)];exact h.e7,fun _=>⟨(h.p hlow).1.trans (hb.mono (h.p hlow).1.size),fun j hj hlj=>?_⟩,fun e=>?_⟩
 .by_cases e:j=i
  .subst e;rw [aL7 (by rw [h.s];omega)];exact hp
  .rw [lQ (by omega)];exact aGi _ _ _ _ _ _ _ _ _ _ _ _ _ _ _ _ _ _ _ ((h.p hlow).2 j hj ((aDp hlj).resolve_left e)) hb
 .have:=(aDp e).resolve_left (by omega);rw [hlow] at this;cases this
theorem I10.at (h:I10 w2 g n cap G GM q ns x2 x3 x4 a1 n1 e1 a2 n2 e2 a3 n3 e3 Lm listed a W)(hi:i<12)(hl:listed.getD i true=false)(j:Nat)(hj:j<11)(hlj:listed.getD j false=true):PV w2 g n cap G ns x2 x3 x4 a1 n1 e1 a2 n2 e2 a3 n3 e3 Lm j (a.tmps.getD (15+j) undef) W:=(h.p (h.low hi hl)).2 j hj hlj
theorem I10.bel (h:I10 w2 g n cap G GM q ns x2 x3 x4 a1 n1 e1 a2 n2 e2 a3 n3 e3 Lm listed a W)(hi:i<12)(hl:listed.getD i true=false):qY w2 W:=(h.p (h.low hi hl)).1
theorem I10.last (h:I10 w2 g n cap G GM q ns x2 x3 x4 a1 n1 e1 a2 n2 e2 a3 n3 e3 Lm listed a W)(hl:listed.getD 11 true=false)(hall:∀ j,j<11->listed.getD j false=true){W':qw}(hF:aOc w2 n q ns x2 x3 x4 a1 n1 e1 a2 n2 e2 a3 n3 e3 Lm W'):I10 w2 g n cap G GM q ns x2 x3 x4 a1 n1 e1 a2 n2 e2 a3 n3 e3 Lm (listed.setIfInBounds 11 true) (a.put none undef) W':=by
 have e:(listed.setIfInBounds 11 true).getD 11 false=true:=by simp [h.sz]
 exact ⟨by simp [h.sz],h.d,h.s,h.e0,h.e4,h.e6,h.e7,fun f=>(by rw [e] at f;cases f),fun _=>⟨fun j hj=>by rw [getD_set_ne false (by omega)];exact hall j hj,hF⟩⟩
end
theorem aMv (hk:k<xs.length)(h:¬ frk ps (xs.getD k zFr)):¬ vG ps cd xs:=fun f=>h (f.2 k hk)
theorem aKk {n:Nat}(hl:xs.length=n)(h0:(n:Int)<=cd)(hk:¬ k<n)(h:∀ i,i<k->frk ps (xs.getD i zFr)):vG ps cd xs:=⟨by rw [hl];exact h0,fun i hi=>h i (by omega)⟩
