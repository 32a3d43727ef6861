import Derived.ChangeMaps5
import Derived.Test.YtncccmeomcaabaaGreatP26
set_option linter.all false
set_option maxHeartbeats 4000000
namespace Go.Proofs.YtncccmeomcaabaaGreat
open Go.RowKit Classical
set_option maxRecDepth 100000
variable {L:Lay}{a:qO}{b m s:Int}{cap n:Nat}{ms:List Md}
theorem aAl {w:qw}(h:MSD w a n cap ms)(m b:Int):0<=pcq (aD ms) m b ↔ (0<=m/\m<(n:Int))/\(b=-1\/(0<=b/\b<((ms.getD m.toNat aK).bn:Int))):=by
 have hn:=h.s.1;rw [<- dW h];unfold pcm;rw [hn];by_cases c:0<=m/\m<(n:Int)
 .rw [if_pos c];unfold pcn;by_cases c1:b=-1
  .rw [if_pos c1];exact ⟨fun _=>⟨c,.inl c1⟩,fun _=>by omega⟩
  .rw [if_neg c1];by_cases c2:0<=b/\b<((ms.getD m.toNat aK).bn:Int)
   .rw [if_pos c2];exact ⟨fun _=>⟨c,.inr c2⟩,fun _=>by omega⟩
   .rw [if_neg c2];exact ⟨fun h=>absurd h (by decide),fun h=>absurd h.2 (fun h=>h.elim c1 c2)⟩
 .rw [if_neg c];exact ⟨fun h=>absurd h (by decide),fun h=>absurd h.1 c⟩
theorem aNw (L:Lay):sOk L (-1) (-1):=by unfold sOk;rw [if_pos (.inl rfl)]
theorem aOv (h:sOk L (-1) s):s=-1:=by unfold sOk at h;rwa [if_pos (.inl rfl)] at h
theorem aNx (b:Int)(h:L.slots=[]):sOk L b (-1):=by unfold sOk;rw [if_pos (.inr h)]
theorem aOw (h:L.slots=[])(hs:sOk L b s):s=-1:=by unfold sOk at hs;rwa [if_pos (.inr h)] at hs
theorem aPv (hb:b≠-1)(h:¬ L.slots=[]):sOk L b s ↔ 0<=s/\s<(L.slots.length:Int):=by unfold sOk;rw [if_neg (fun c=>c.elim hb h)]
def F2 (ps:List PMod)(L:Lay)(m b:Int):Prop:=∀ s:Int,sOk L b s->(plR ps L m b s).length<=8
theorem aGv {w:qw}(h:MSD w a n cap ms)(hk:Lok (aD ms) L)(hf:∀ m:Nat,m<n->∀ b:Int,(b=-1\/(0<=b/\b<((ms.getD m aK).bn:Int)))->F2 (aD ms) L m b):uU (aD ms) L:=by
 refine ⟨hk,fun m b s hp hs=>?_⟩;obtain ⟨⟨h1,h2⟩,h3⟩:=(aAl h m b).1 hp;have:=hf m.toNat (by omega) b h3 s hs
 rwa [Int.toNat_of_nonneg h1] at this
theorem aA9 {w:qw}(h:MSD w a n cap ms)(hm:0<=m/\m<(n:Int))(hb:b=-1\/(0<=b/\b<((ms.getD m.toNat aK).bn:Int)))(hs:sOk L b s)(hl:¬ (plR (aD ms) L m b s).length<=8):¬ uU (aD ms) L:=fun hf=>hl (hf.2 m b s ((aAl h m b).2 ⟨hm,hb⟩) hs)
theorem aHl (a:qO)(n cap:Nat)(ms:List Md)(L:Lay)(a0:qO)(c0:Nat)(xs:List PB)(a2:qO)(c2:Nat)(a5:qO)(c5:Nat)(ts:List TB)(w:qw)(h:MSD w a n cap ms)(hL:LyT w L a0 c0 xs a2 c2 a5 c5 ts):
 qC 75 #[qS a n cap,.agg (qL L a0 xs.length c0 a2 L.slots.length c2 a5 ts.length c5)] w fun e w'=>∃ r:Bool,e=.returned (.bool r)/\(r=true ↔ uU (aD ms) L)/\qY w w':=by
 obtain ⟨V,hV⟩:=eqx (w.alloc (.cells (qL L a0 xs.length c0 a2 L.slots.length c2 a5 ts.length c5) 71));have hB:qY w V:=by rw [hV];exact brf.alloc aN _
 have k0:Blk V w.heap.size (qL L a0 xs.length c0 a2 L.slots.length c2 a5 ts.length c5) 71:=by rw [hV];exact Blk.new w _ _
 have HBV:=zh hB;have HM:=zh (h.bw hB);have HL2:=zh (hL.bw hB);have HV:=zh hV;have HK:=zh k0;have hn:=h.s.1;have hmx:=h.s.2.1;have hlx:=hL.s.2.1;unfold maxLen at hmx hlx;have HKX:Zh (∀ X,qY V X->X.cell? (qR w.heap.size 0)=some (qS a0 xs.length c0)/\X.cell? (qR w.heap.size 1)=some (qI L.stack)/\X.cell? (qR w.heap.size 2)=some (qS a2 L.slots.length c2)/\X.cell? (qR w.heap.size 3)=some (qI L.flash)/\X.cell? (qR w.heap.size 4)=some (qI L.ram)/\X.cell? (qR w.heap.size 5)=some (qS a5 ts.length c5)):=fun X hz=>(HK.o.bw hz).ly6;have HX:Zh (∀ X,qY V X->qY w X):=fun X hz=>HBV.o.trans (hz.mono HBV.o.size);have HR:Zh (qC 142 #[qS a n cap,.agg (qL L a0 xs.length c0 a2 L.slots.length c2 a5 ts.length c5)] V (fun e w'=>e=.returned (.bool (decide (Lok (aD ms) L)))/\qY V w')):=tP a n cap ms L a0 c0 xs a2 c2 a5 c5 ts V HM.o HL2.o;clear hV k0 h hL hB;obtain ⟨z0,z1,z2,z3,z4,z5⟩:=HKX.o _ brf;by_cases c1:Lok (aD ms) L
 .rw [xR c1] at HR;have HC:=zh c1;have HPL:Zh (∀ X (m b s:Int),qY V X->(0<=m/\m<(n:Int))->(b=-1\/(0<=b/\b<((ms.getD m.toNat aK).bn:Int)))->sOk L b s->qC 143 #[qS a n cap,.agg (qL L a0 xs.length c0 a2 L.slots.length c2 a5 ts.length c5),.agg (qT m b 0),qI s] X (fun e w'=>∃ A k c,e=.returned (qS A k c)/\k=(plR (aD ms) L m b s).length/\qY X w'/\qY V w')):=fun X m b s hz hm hb hs=>(aEw a n cap ms L a0 c0 xs a2 c2 a5 c5 ts m b 0 s X (HM.o.bw hz) (HL2.o.bw hz) c1 ((aAl HM.o m b).2 ⟨hm,hb⟩) hs.fit).mono fun e w' ⟨A,k,c,he,ho,hbb⟩=>⟨A,k,c,he,(fA ho).1.symm,hbb,hz.trans (hbb.mono hz.size)⟩;clear c1;obtain ⟨l,hl⟩:=eqx (L.slots.length);rw [<- hl] at HR HPL HKX HV z2 hlx ⊢;have HLE:=zh hl;have HSE:=zh (show L.slots=[] ↔ l=0 by rw [hl];exact List.length_eq_zero_iff.symm);clear hl;go_enter Tryz.func75,Tryz.ntmps75
  go_wp2_with (rw [<- HV.o])
  refine HR.o.mono ?_;rintro e X1 ⟨rfl,hb1⟩;have HB1:=zh hb1;clear hb1 z0 z1 z2 z3 z4 z5 HR HV;go_wp2_with fail
  go_loopw [5] (fun i wr=>∃ m:Nat,m<=n/\i=qI m/\(∀ m':Nat,m'<m->∀ b:Int,(b=-1\/(0<=b/\b<((ms.getD m' aK).bn:Int)))->F2 (aD ms) L m' b)/\qY V wr) (qf n)
  .exact ⟨0,xC _,rfl,fun m' hm'=>absurd hm' (Nat.not_lt_zero _),HB1.o⟩
  .obtain ⟨m,hm,rfl,hF,hB⟩:=hrel;have HF:=zh hF;have HB:=zh hB;clear hF hB HB1;by_cases hlt:m<n
   .have hlt':(m:Int)<(n:Int):=by omega
    obtain ⟨gm,om,rfl,_,_,v2,_,_,_,_,_⟩:=HM.o.s.at m hlt;have hbx:(ms.getD m aK).bn<=9223372036854775807:=by have:=(HM.o.s.2.2.2.1 m hlt).b.2.1;unfold maxLen at this;omega
    obtain ⟨bn,hbn⟩:=eqx ((ms.getD m aK).bn);have HBN:=zh hbn;rw [<- hbn] at v2 hbx;clear hbn;have HP1:=zh (HPL.o wr m (-1) (-1) HB.o (by omega) (.inl rfl) (aNw L));obtain ⟨z0,z1,z2,z3,z4,z5⟩:=HKX.o _ HB.o;go_wp2_with fail
    refine HP1.o.mono ?_;rintro e X2 ⟨A,k,c,rfl,hk,_,hb2⟩;have HK2:=zh hk;have HB2:=zh hb2;clear hk hb2 HP1 z0 z1 z2 z3 z4 z5;by_cases h8:k<=8
    .have h8':(k:Int)<=8:=by omega
     have HT:Zh (F2 (aD ms) L m (-1)):=fun s hs=>by rw [aOv hs,<- HK2.o];exact h8
     go_wp2_with fail
     generalize wr=wo at *;go_loopw [6] (fun i wr=>∃ q:Nat,q<=bn/\i=qI q/\(∀ b:Int,(b=-1\/(0<=b/\b<(q:Int)))->F2 (aD ms) L m b)/\qY V wr) (qf bn)
     .exact ⟨0,xC _,rfl,fun b hb=>by rcases hb with rfl|hb;exact HT.o;omega,HB2.o⟩
     .obtain ⟨q,hq,rfl,hF2,hB3⟩:=hrel;have HF2:=zh hF2;have HB3:=zh hB3;clear hF2 hB3;have v3:=aB HB3.o v2;by_cases hq2:q<bn
      .have hq2':(q:Int)<(bn:Int):=by omega
       generalize wr=wp at *
       have HQ:=zh (show F2 (aD ms) L m (q:Int)->∀ b:Int,(b=-1\/(0<=b/\b<((q+1:Nat):Int)))->F2 (aD ms) L m b from fun h b hb=>by
        by_cases e:b=(q:Int)
        .rw [e];exact h
        .exact HF2.o b (by omega))
       obtain ⟨V3,hV3⟩:=eqx (wp.alloc (.cells (qT m q 0) 58));have bV3:qY V V3:=by rw [hV3];exact HB3.o.alloc HB3.o.size _
       have kT:Blk V3 wp.heap.size (qT m q 0) 58:=by rw [hV3];exact Blk.new _ _ _
       have HV3:=zh hV3;have HBV3:=zh bV3;have HKT:=zh kT;have v4:=aB HBV3.o v2;clear hV3 bV3 kT;obtain ⟨z0,z1,z2,z3,z4,z5⟩:=HKX.o _ HBV3.o;obtain ⟨y0,y1,y2⟩:=HKT.o.tg3;have HBQ:Zh ((q:Int)=-1\/(0<=(q:Int)/\(q:Int)<((ms.getD ((m:Int)).toNat aK).bn:Int))):=.inr ⟨by omega,by rw [xY,<- HBN.o];exact hq2'⟩;by_cases hl0:l=0
       .have HSL:=zh (HSE.o.2 hl0);have HP2:=zh (HPL.o V3 m q (-1) HBV3.o (by omega) HBQ.o (aNx _ HSL.o));subst hl0;go_wp2_with (rw [<- HV3.o])
        refine HP2.o.mono ?_;rintro e X4 ⟨A2,k2,c2',rfl,hk2,_,hb4⟩;have HK4:=zh hk2;have HB4:=zh hb4;clear hk2 hb4 HP2 z0 z1 z2 z3 z4 z5 y0 y1 y2;by_cases h82:k2<=8
        .have h82':(k2:Int)<=8:=by omega
         have HN:=zh (HQ.o (fun s hs=>by rw [aOw HSL.o hs,<- HK4.o];exact h82));go_wp2_with fail
         go_loopw [8] (fun i wr=>i=qI 0/\qY V wr) (fun _ _=>0)
         .exact ⟨rfl,HB4.o⟩
         .obtain ⟨rfl,hB5⟩:=hrel;have HB5:=zh hB5;obtain ⟨z0,z1,z2,z3,z4,z5⟩:=HKX.o _ HB5.o;clear hB5;go_wp2
          go_roundw
          .exact ⟨q+1,by omega,by go_num,HN.o,HB5.o⟩
          .simp [qf,intOf];omega
        .have h82':(8:Int)<(k2:Int):=by omega
         have HNO:=zh (aA9 HM.o (m:=(m:Int)) (b:=(q:Int)) (s:=-1) (by omega) HBQ.o (aNx _ HSL.o) (by rw [<- HK4.o];exact h82));go_wp2;go_ret;exact ⟨false,rfl,by simp [HNO.o],HX.o _ HB4.o⟩
       .have hl0':((l:Int)==0)=false:=by simpa using hl0
        have HSK:Zh (∀ s:Int,sOk L (q:Int) s ↔ 0<=s/\s<(l:Int)):=fun s=>by rw [HLE.o];exact aPv (by omega) (fun e=>hl0 (HSE.o.1 e))
        go_wp2_with (rw [<- HV3.o])
        clear z0 z1 z2 z3 z4 z5 y0 y1 y2;go_loopw [8] (fun i wr=>∃ t:Nat,t<=l/\i=qI t/\(∀ s':Nat,s'<t->(plR (aD ms) L m q s').length<=8)/\Blk wr wp.heap.size (qT m q 0) 58/\qY V wr) (qf l)
        .exact ⟨0,xC _,rfl,fun s' hs'=>absurd hs' (Nat.not_lt_zero _),HKT.o,HBV3.o⟩
        .obtain ⟨t,ht,rfl,hG,kt5,hB5⟩:=hrel;have HG:=zh hG;have HK5:=zh kt5;have HB5:=zh hB5;clear hG kt5 hB5;obtain ⟨z0,z1,z2,z3,z4,z5⟩:=HKX.o _ HB5.o;obtain ⟨y0,y1,y2⟩:=HK5.o.tg3;by_cases ht2:t<l
         .have ht2':(t:Int)<(l:Int):=by omega
          have HP3:=zh (HPL.o wr m q t HB5.o (by omega) HBQ.o ((HSK.o _).2 ⟨by omega,ht2'⟩));go_wp2_with fail
          refine HP3.o.mono ?_;rintro e X6 ⟨A3,k3,c3',rfl,hk3,hbx6,hb6⟩;have HK6:=zh hk3;have HB6:=zh (xA hbx6 hb6);clear hk3 hbx6 hb6 HP3 z0 z1 z2 z3 z4 z5 y0 y1 y2;by_cases h83:k3<=8
          .have h83':(k3:Int)<=8:=by omega
           have HN:=zh (show ∀ s':Nat,s'<t+1->(plR (aD ms) L m q s').length<=8 from fun s' hs'=>by
            by_cases e:s'=t
            .rw [e,<- HK6.o];exact h83
            .exact HG.o s' (by omega))
           go_wp2
           go_roundw
           .exact ⟨t+1,by omega,by go_num,HN.o,HK5.o.bw HB6.o.1,HB6.o.2⟩
           .simp [qf,intOf];omega
          .have h83':(8:Int)<(k3:Int):=by omega
           have HNO:=zh (aA9 HM.o (m:=(m:Int)) (b:=(q:Int)) (s:=(t:Int)) (by omega) HBQ.o ((HSK.o _).2 ⟨by omega,ht2'⟩) (by rw [<- HK6.o];exact h83));go_wp2;go_ret;exact ⟨false,rfl,by simp [HNO.o],HX.o _ HB6.o.2⟩
         .have HN:=zh (HQ.o (fun s hs=>by
           have h1:=(HSK.o s).1 hs;have h2:=HG.o s.toNat (by omega)
           rwa [Int.toNat_of_nonneg h1.1] at h2))
          go_wp2
          go_roundw
          .exact ⟨q+1,by omega,by go_num,HN.o,HB5.o⟩
          .simp [qf,intOf];omega
      .have HN:=zh (show ∀ m':Nat,m'<m+1->∀ b:Int,(b=-1\/(0<=b/\b<((ms.getD m' aK).bn:Int)))->F2 (aD ms) L m' b from fun m' hm' b hb=>by
        by_cases e:m'=m
        .subst e;rw [<- HBN.o] at hb;exact HF2.o b (by omega)
        .exact HF.o m' (by omega) b hb)
       go_wp2
       go_roundw
       .exact ⟨m+1,by omega,by go_num,HN.o,HB3.o⟩
       .simp [qf,intOf];omega
    .have h8':(8:Int)<(k:Int):=by omega
     have HNO:=zh (aA9 HM.o (m:=(m:Int)) (b:=-1) (s:=-1) (by omega) (.inl rfl) (aNw L) (by rw [<- HK2.o];exact h8));go_wp2;go_ret;exact ⟨false,rfl,by simp [HNO.o],HX.o _ HB2.o⟩
   .have HN:=zh (aGv HM.o HC.o (fun m' hm'=>HF.o m' (by omega)));go_wp2;go_ret;exact ⟨true,rfl,by simp [HN.o],HX.o _ HB.o⟩
 .rw [xS c1] at HR;have HC:=zh c1;clear c1;go_enter Tryz.func75,Tryz.ntmps75
  go_wp2_with (rw [<- HV.o])
  refine HR.o.mono ?_;rintro e X1 ⟨rfl,hb1⟩;have HB1:=zh hb1;clear hb1;go_wp2;go_ret;exact ⟨false,rfl,by simp [uU,HC.o],HX.o _ HB1.o⟩
theorem Blk.c2 {w:qw}{b:Nat}{t:TypeId}{v0 v1 v2 v3 v4 v5 v6 v7:Value}(h:Blk w b #[v0,v1,v2,v3,v4,v5,v6,v7] t):w.cell? (qR b 2)=some v2:=h.cell 2
theorem aL5 {ps:List PMod}(h:∀ t:Nat,t<(slF L b).length->(plR ps L m b ((slF L b).getD t 0)).length<=8):F2 ps L m b:=fun s hs=>by
 obtain ⟨k,hk,e⟩:=aKi ((aF5 L b s).2 hs);rw [<- e];exact h k hk
theorem aOs {t:Nat}(h:t<(slF L b).length):sOk L b ((slF L b).getD t 0):=(aF5 L b _).1 (yR h)
theorem aAj (a:qO)(n cap:Nat)(ms:List Md)(L:Lay)(a0:qO)(c0:Nat)(xs:List PB)(a2:qO)(c2:Nat)(a5:qO)(c5:Nat)(ts:List TB)(w:qw)(h:MSD w a n cap ms)(hL:LyT w L a0 c0 xs a2 c2 a5 c5 ts)(hk:Lok (aD ms) L):
 qC 154 #[qS a n cap,.agg (qJ L a0 xs c0 a2 c2 a5 ts c5)] w fun e w'=>∃ r:Bool,e=.returned (.bool r)/\(r=true ↔ uU (aD ms) L)/\qY w w':=by
 obtain ⟨V,hV⟩:=eqx (w.alloc (.cells (qJ L a0 xs c0 a2 c2 a5 ts c5) 71));have hB:qY w V:=by rw [hV];exact bal
 have k0:Blk V w.heap.size (qJ L a0 xs c0 a2 c2 a5 ts c5) 71:=by rw [hV];exact Blk.new w _ _
 have HBV:=zh hB;have HM:=zh (h.bw hB);have HL2:=zh (hL.bw hB);have HV:=zh hV;have HK:=zh k0;have hn:=h.s.1;have hmx:=h.s.2.1;have hlx:=hL.s.2.1;unfold maxLen at hmx hlx;have HKX:Zh (∀ X,qY V X->X.cell? (qR w.heap.size 0)=some (qS a0 xs.length c0)/\X.cell? (qR w.heap.size 1)=some (qI L.stack)/\X.cell? (qR w.heap.size 2)=some (qS a2 L.slots.length c2)/\X.cell? (qR w.heap.size 3)=some (qI L.flash)/\X.cell? (qR w.heap.size 4)=some (qI L.ram)/\X.cell? (qR w.heap.size 5)=some (qS a5 ts.length c5)):=fun X hz=>(HK.o.bw hz).ly6;have HX:Zh (∀ X,qY V X->qY w X):=fun X hz=>HBV.o.trans (hz.mono HBV.o.size);have HC:=zh hk;have HPO:Zh (∀ X (m b s:Int),qY V X->(0<=m/\m<(n:Int))->(b=-1\/(0<=b/\b<((ms.getD m.toNat aK).bn:Int)))->sOk L b s->qC 161 #[qS a n cap,.agg (qJ L a0 xs c0 a2 c2 a5 ts c5),.agg (qT m b 0),qI s] X (fun e w'=>∃ A k c,e=.returned (.tuple #[qS A k c,.bool (decide ((plR (aD ms) L m b s).length<=8))])/\qY X w'/\qY V w')):=fun X m b s hz hm hb hs=>(sG a n cap ms L a0 c0 xs a2 c2 a5 c5 ts m b 0 s X (HM.o.bw hz) (HL2.o.bw hz) hk ((aAl HM.o m b).2 ⟨hm,hb⟩) hs.fit).mono fun e w' ⟨A,k,c,he,_,hbb⟩=>⟨A,k,c,he,hbb,hz.trans (hbb.mono hz.size)⟩;have HSF:Zh (∀ X (b:Int),qY V X->qC 189 #[.agg (qJ L a0 xs c0 a2 c2 a5 ts c5),qI b] X (fun e w'=>∃ ra rn rc,e=.returned (qS ra rn rc)/\IS w' ra rn rc (slF L b)/\qY X w'/\qY V w')):=fun X b hz=>(zU L a0 c0 xs a2 c2 a5 c5 ts b X (HL2.o.bw hz) (aId hk)).mono fun e w' ⟨ra,rn,rc,he,hi,hbb⟩=>⟨ra,rn,rc,he,hi,hbb,hz.trans (hbb.mono hz.size)⟩;clear hV k0 h hL hB hk;go_enter Tryz.func154,Tryz.ntmps154
 go_wp2_with (rw [<- HV.o])
 clear HV;go_loopw [14] (fun i wr=>∃ m:Nat,m<=n/\i=qI m/\(∀ m':Nat,m'<m->∀ b:Int,(b=-1\/(0<=b/\b<((ms.getD m' aK).bn:Int)))->F2 (aD ms) L m' b)/\qY V wr) (qf n)
 .exact ⟨0,xC _,rfl,fun m' hm'=>absurd hm' (Nat.not_lt_zero _),brf⟩
 .obtain ⟨m,hm,rfl,hF,hB⟩:=hrel;have HF:=zh hF;have HB:=zh hB;clear hF hB;by_cases hlt:m<n
  .have hlt':(m:Int)<(n:Int):=by omega
   obtain ⟨gm,om,rfl,v0,v1,v2,v3,v4,v5,v6,v7⟩:=HM.o.s.at m hlt
   have hbx:(ms.getD m aK).bn<=9223372036854775806:=by
    have h1:=(kI HC.o).v m (by rw [bR,hn];exact hlt);rw [cH (by rw [hn];exact hlt)] at h1;have h2:=(cA h1).2.2.2.1;have h3:=(HM.o.d m hlt).b.1;simp only [Md.pm,xH] at h2;omega
   obtain ⟨M,hM⟩:=eqx (ms.getD m aK);have HME:=zh hM;rw [<- hM] at v0 v1 v2 v3 v4 v5 v6 v7 hbx;clear hM;obtain ⟨bn,hbn⟩:=eqx (M.bn);have HBN:=zh (show bn=(ms.getD m aK).bn by rw [hbn,HME.o]);rw [<- hbn] at v2 hbx;clear hbn;have u0:=aB HB.o v0;have u1:=aB HB.o v1;have u2:=aB HB.o v2;have u3:=aB HB.o v3;have u4:=aB HB.o v4;have u5:=aB HB.o v5;have u6:=aB HB.o v6;have u7:=aB HB.o v7;clear v0 v1 v2 v3 v4 v5 v6 v7;generalize wr=wo at *;obtain ⟨V2,hV2⟩:=eqx (wo.alloc (.cells (qM M.nm M.ta M.tn M.tc M.ba bn M.bc M.da M.dn M.dc M.bss M.ra M.rn M.rc M.ia M.im M.ic M.ea M.en M.ec) 138));have HBV2:=zh (show qY V V2 by rw [hV2];exact HB.o.alloc HB.o.size _);have HKM:=zh (show Blk V2 wo.heap.size (qM M.nm M.ta M.tn M.tc M.ba bn M.bc M.da M.dn M.dc M.bss M.ra M.rn M.rc M.ia M.im M.ic M.ea M.en M.ec) 138 by rw [hV2];exact Blk.new _ _ _);have HV2:=zh hV2;clear hV2;go_wp2_with (rw [<- HV2.o])
   clear u0 u1 u2 u3 u4 u5 u6 u7;go_loopw [7] (fun i wr=>∃ q:Nat,q<=bn+1/\i=qI ((q:Int)-1)/\(∀ b:Int,-1<=b->b<(q:Int)-1->F2 (aD ms) L m b)/\Blk wr wo.heap.size (qM M.nm M.ta M.tn M.tc M.ba bn M.bc M.da M.dn M.dc M.bss M.ra M.rn M.rc M.ia M.im M.ic M.ea M.en M.ec) 138/\qY V wr) (fun i _=>bn+1-(intOf i+1).toNat)
   .exact ⟨0,xC _,rfl,fun b h1 h2=>by omega,HKM.o,HBV2.o⟩
   .obtain ⟨q,hq,rfl,hF2,hkm,hB3⟩:=hrel;have HF2:=zh hF2;have HK3:=zh hkm;have HB3:=zh hB3;have y2:=hkm.c2;clear hF2 hB3 hkm;by_cases hq2:q<bn+1
    .have hq2':(q:Int)-1<(bn:Int):=by omega
     obtain ⟨b,hb⟩:∃ b:Int,b=(q:Int)-1:=⟨_,rfl⟩;rw [<- hb] at hq2' ⊢;have hb0:-1<=b:=by omega
     have HBB:=zh hb
     have HBQ:=zh (show b=-1\/(0<=b/\b<((ms.getD ((m:Int)).toNat aK).bn:Int)) from by
      rw [xY,<- HBN.o]
      omega)
     clear hb;generalize wr=wp at *;have HS1:=zh (HSF.o wp b HB3.o);obtain ⟨z0,z1,z2,z3,z4,z5⟩:=HKX.o _ HB3.o;go_wp2_with fail
     refine HS1.o.mono ?_;rintro e X4 ⟨ra,rn,rc,rfl,hI,hbx4,hb4⟩;have HI4:=zh hI;have HK4:=zh (HK3.o.bw hbx4);have HB4:=zh hb4;have hrx:=hI.2.1;unfold maxLen at hrx;clear hI hbx4 hb4 HS1 z0 z1 z2 z3 z4 z5 y2;go_wp2_with fail
     go_loopw [30] (fun i wr=>∃ t:Nat,t<=rn/\i=qI t/\(∀ s':Nat,s'<t->(plR (aD ms) L m b ((slF L b).getD s' 0)).length<=8)/\IS wr ra rn rc (slF L b)/\Blk wr wo.heap.size (qM M.nm M.ta M.tn M.tc M.ba bn M.bc M.da M.dn M.dc M.bss M.ra M.rn M.rc M.ia M.im M.ic M.ea M.en M.ec) 138/\qY V wr) (qf rn)
     .exact ⟨0,xC _,rfl,fun s' hs'=>absurd hs' (Nat.not_lt_zero _),HI4.o,HK4.o,HB4.o⟩
     .obtain ⟨t,ht,rfl,hG,hI5,hk5,hB5⟩:=hrel;have HG:=zh hG;have HI5:=zh hI5;have HK5:=zh hk5;have HB5:=zh hB5;clear hG hk5 hB5;by_cases ht2:t<rn
      .have ht2':(t:Int)<(rn:Int):=by omega
       obtain ⟨rb,ro,rfl,hcc⟩:=hI5.2.2.2.1 (by omega);have r0:=hcc t ht2;have HSO:=zh (aOs (L:=L) (b:=b) (t:=t) (by rw [hI5.1];exact ht2));have HP3:=zh (HPO.o wr m b ((slF L b).getD t 0) HB5.o (by omega) HBQ.o HSO.o);obtain ⟨z0,z1,z2,z3,z4,z5⟩:=HKX.o _ HB5.o;obtain ⟨sv,hsv⟩:=eqx ((slF L b).getD t 0);rw [<- hsv] at r0 HP3 HSO;have HSV:=zh hsv;clear hcc hI5 hsv;go_wp2_with fail
       refine HP3.o.mono ?_;rintro e X6 ⟨A3,k3,c3',rfl,hbx6,hb6⟩;have HB6:=zh (xA hbx6 hb6);clear hbx6 hb6 HP3 z0 z1 z2 z3 z4 z5 r0;by_cases h83:(plR (aD ms) L m b sv).length<=8
       .rw [xR h83]
        have HN:=zh (show ∀ s':Nat,s'<t+1->(plR (aD ms) L m b ((slF L b).getD s' 0)).length<=8 from fun s' hs'=>by
         by_cases e:s'=t
         .rw [e,<- HSV.o];exact h83
         .exact HG.o s' (by omega))
        clear h83;go_wp2
        go_roundw
        .exact ⟨t+1,by omega,by go_num,HN.o,HI5.o.bw HB6.o.1,HK5.o.bw HB6.o.1,HB6.o.2⟩
        .simp [qf,intOf];omega
       .rw [xS h83];have HNO:=zh (aA9 HM.o (m:=(m:Int)) (b:=b) (s:=sv) (by omega) HBQ.o HSO.o h83);clear h83;go_wp2;go_ret;exact ⟨false,rfl,by simp [HNO.o],HX.o _ HB6.o.2⟩
      .have HN:=zh (show ∀ b':Int,-1<=b'->b'<((q+1:Nat):Int)-1->F2 (aD ms) L m b' from fun b' h1 h2=>by
        by_cases e:b'=b
        .rw [e];exact aL5 (fun t' ht'=>HG.o t' (by rw [HI5.o.1] at ht';omega))
        .exact HF2.o b' h1 (by have:=HBB.o;omega))
       have HBE:=zh (show b+1=((q+1:Nat):Int)-1 by have:=HBB.o;omega);clear hI5;go_wp2
       go_roundw
       .exact ⟨q+1,by omega,by rw [HBE.o],HN.o,HK5.o,HB5.o⟩
       .have:=HBB.o;simp [qf,intOf];omega
    .have HN:=zh (show ∀ m':Nat,m'<m+1->∀ b:Int,(b=-1\/(0<=b/\b<((ms.getD m' aK).bn:Int)))->F2 (aD ms) L m' b from fun m' hm' b hb=>by
      by_cases e:m'=m
      .subst e;rw [<- HBN.o] at hb;exact HF2.o b (by omega) (by omega)
      .exact HF.o m' (by omega) b hb)
     have hq3:(q:Int)-1=(bn:Int):=by omega
     rw [hq3];go_wp2
     go_roundw
     .exact ⟨m+1,by omega,by go_num,HN.o,HB3.o⟩
     .simp [qf,intOf];omega
  .have HN:=zh (aGv HM.o HC.o (fun m' hm'=>HF.o m' (by omega)));go_wp2;go_ret;exact ⟨true,rfl,by simp [HN.o],HX.o _ HB.o⟩
end Go.Proofs.YtncccmeomcaabaaGreat
namespace Go.Proofs.YtncccmeomcaabaaGreat
open Go.ChangeShapes Go.WideShapes Go.ChangeAt Go.RowKit Classical
set_option maxRecDepth 100000 in
theorem aAr {H:Type}{enc:TypeId×Value->H}{w:qw}{base:Nat}{held:Bool}{fuel:Nat}{cs:List Value}{x:DataW H×List MemPlace}
 (h:DataW.trod enc Tryz.prog w base (fun _=>true) held fuel 118 cs=some x):∃ m:Md,cs=m.cells.toList/\m.mt w:=by
 obtain ⟨xs,n,_,_,hl,hlen,hf⟩:=DataW.trod_struct Tryz.underlying118 h;have e8:Tryz.prog.cellsOf 118=8:=by kernel_rfl
 rw [e8] at hl
 match xs,hlen,cs,hl with
 | [y0,y1,y2,y3,y4,y5,y6,y7],_,[c0,c1,c2,c3,c4,c5,c6,c7],_=>
 have k0:=hf 0 _ rfl;have k1:=hf 1 _ rfl;have k2:=hf 2 _ rfl;have k3:=hf 3 _ rfl;have k4:=hf 4 _ rfl;have k5:=hf 5 _ rfl;have k6:=hf 6 _ rfl;have k7:=hf 7 _ rfl;have e1:Tryz.prog.cellsOf 3=1:=by kernel_rfl
 have e2:Tryz.prog.cellsOf 9=1:=by kernel_rfl
 have e3:Tryz.prog.cellsOf 25=1:=by kernel_rfl
 have e4:Tryz.prog.cellsOf 114=1:=by kernel_rfl
 have e5:Tryz.prog.cellsOf 28=1:=by kernel_rfl
 have e6:Tryz.prog.cellsOf 115=1:=by kernel_rfl
 have e7:Tryz.prog.cellsOf 116=1:=by kernel_rfl
 simp [e1,e2,e3,e4,e5,e6,e7] at k0 k1 k2 k3 k4 k5 k6 k7;obtain ⟨nm,h0,_,w0⟩:=DataW.trod_string Tryz.underlying9 k0;obtain ⟨ta,tn,tc,tz,h1,w1⟩:=jF k1;obtain ⟨ba,bn,bc,bl,h2,w2⟩:=aDo k2;obtain ⟨da,dn,dc,dz,h3,w3⟩:=jK k3;obtain ⟨bss,h4,_,w4⟩:=DataW.trod_int Tryz.underlying3 k4;obtain ⟨ra,rn,rc,rz,h5,w5⟩:=jF k5;obtain ⟨ia,im,ic,ss,h6,w6⟩:=aDv k6;obtain ⟨ea,en,ec,es,h7,w7⟩:=aDy k7;simp at h0 h1 h2 h3 h4 h5 h6 h7;subst h0 h1 h2 h3 h4 h5 h6 h7;exact ⟨⟨nm,ta,tn,tc,tz,ba,bn,bc,bl,da,dn,dc,dz,bss,ra,rn,rc,rz,ia,im,ic,ss,ea,en,ec,es⟩,rfl,w0,w1,w2,w3,wf_i64 w4,w5,w6,w7⟩
set_option maxRecDepth 100000 in
theorem aEi {H:Type}{enc:TypeId×Value->H}{w:qw}{base:Nat}{held:Bool}{fuel:Nat}{cs:List Value}{x:DataW H×List MemPlace}
 (h:DataW.trod enc Tryz.prog w base (fun _=>true) held fuel 22 cs=some x):∃ a n cap ms,cs=[qS a n cap]/\MS w a n cap ms:=by
 have e1:Tryz.prog.cellsOf 118=8:=by kernel_rfl
 rcases Deep.open_slice Tryz.underlying22 h with ⟨hcs,_⟩|⟨a,len,cap,m,n,D,Pl,hcs,hb,hl,hm,hmm,hx,hd⟩
 .exact ⟨none,0,0,[],hcs,rfl,Nat.zero_le _,fun h=>absurd rfl h,fun i hi=>by omega,aN⟩
 .simp at hmm;rw [hmm] at hd;rw [e1] at hd
  haveI:Inhabited Md:=⟨aK⟩
  obtain ⟨G,hG⟩:=Deep.choose_lt (α:=Md) (p:=fun i g=>(∃ cs',w.cells? base (a.add (i*8)) 8=some cs'/\cs'=g.cells.toList)/\g.mt w) (n:=len) (fun i hi=>by
   obtain ⟨cs',h1,h2⟩:=hd i (by omega);obtain ⟨s,e,hI⟩:=aAr h2
   exact ⟨s,⟨cs',h1,e⟩,hI⟩)
  have hgi:∀ i,i<len->((List.range len).map G).getD i aK=G i:=fun i hi=>by simp [List.getD_eq_getElem?_getD,hi]
  refine ⟨some a,len,cap,(List.range len).map G,hcs,by simp,by omega,?_,fun i hi=>by rw [hgi i hi];exact (hG i hi).2,hl⟩;intro hn;obtain ⟨b,off,spot⟩:=a
  have hspot:spot=none:=by
   obtain ⟨⟨cs',h1,h2⟩,_⟩:=hG 0 (by omega);have:=(World.cells?_some h1).2.2 0 (by omega);rw [h2] at this;simpa [Addr.add,Md.cells] using World.cell?_spot this
  subst hspot;refine ⟨b,off,rfl,fun i hi=>?_⟩;obtain ⟨⟨cs',h1,h2⟩,_⟩:=hG i hi;have hc:=(World.cells?_some h1).2.2;rw [h2] at hc;rw [hgi i hi];simp only [aFu] at hc;exact ⟨hc 0 (by omega),hc 1 (by omega),hc 2 (by omega),hc 3 (by omega),hc 4 (by omega),hc 5 (by omega),hc 6 (by omega),hc 7 (by omega)⟩
end Go.Proofs.YtncccmeomcaabaaGreat
namespace Go.Proofs.YtncccmeomcaabaaGreat
open Go.ChangeShapes Go.WideShapes Go.ChangeAt Go.RowKit Classical
variable {base fuel:Nat}{cs:List Value}{held:Bool}
set_option maxRecDepth 100000 in
theorem aLu {H:Type}{enc:TypeId×Value->H}{w:qw}{base:Nat}{held:Bool}{spare:Nat->Bool}{fuel:Nat}{cs:List Value}{x:DataW H×List MemPlace}
 (h:DataW.trod enc Tryz.prog w base spare held fuel 144 cs=some x):∃ g:SlT,cs=bS g:=by
 obtain ⟨xs,n,_,_,hl,hlen,hf⟩:=DataW.trod_struct Tryz.underlying144 h;have e6:Tryz.prog.cellsOf 144=4:=by kernel_rfl
 rw [e6] at hl
 match xs,hlen,cs,hl with
 | [y0,y1,y2,y3],_,[c0,c1,c2,c3],_=>
 have k0:=hf 0 _ rfl;have k1:=hf 1 _ rfl;have k2:=hf 2 _ rfl;have k3:=hf 3 _ rfl;have e3:Tryz.prog.cellsOf 3=1:=by kernel_rfl
 have e4:Tryz.prog.cellsOf 4=1:=by kernel_rfl
 simp [e3,e4] at k0 k1 k2 k3;obtain ⟨a0,h0,_⟩:=DataW.trod_bool Tryz.underlying4 k0;obtain ⟨a1,h1,_,wb⟩:=DataW.trod_int Tryz.underlying3 k1;obtain ⟨a2,h2,_,wc⟩:=DataW.trod_int Tryz.underlying3 k2;obtain ⟨a3,h3,_,wd⟩:=DataW.trod_int Tryz.underlying3 k3;simp at h0 h1 h2 h3;subst h0 h1 h2 h3;exact ⟨(a0,a1,a2,a3),rfl⟩
set_option maxRecDepth 100000 in
theorem aFv {H:Type}{enc:TypeId×Value->H}{w:qw}{x:DataW H×List MemPlace}
 (h:DataW.trod enc Tryz.prog w base (fun _=>true) held fuel 31 cs=some x):∃ a n cap zs,cs=[qS a n cap]/\QS bS zSl w a n cap zs:=by
 have e1:Tryz.prog.cellsOf 144=4:=by kernel_rfl
 rcases Deep.open_slice Tryz.underlying31 h with ⟨hcs,_⟩|⟨a,len,cap,m,n,D,Pl,hcs,hb,hl,hm,hmm,hx,hd⟩
 .exact ⟨none,0,0,[],hcs,rfl,xC _,fun h=>absurd rfl h,aN⟩
 .simp at hmm;rw [hmm] at hd;rw [e1] at hd
  obtain ⟨G,hG⟩:=Deep.choose_lt (α:=SlT) (p:=fun i g=>∃ cs',w.cells? base (a.add (i*4)) 4=some cs'/\cs'=bS g) (n:=len) (fun i hi=>by
   obtain ⟨cs',h1,h2⟩:=hd i (by omega);obtain ⟨s,e⟩:=aLu h2
   exact ⟨s,cs',h1,e⟩)
  have hgi:∀ i,i<len->((List.range len).map G).getD i zSl=G i:=fun i hi=>by simp [xB,hi]
  refine ⟨some a,len,cap,(List.range len).map G,hcs,by simp,by omega,?_,hl⟩;intro hn;obtain ⟨b,off,spot⟩:=a
  have hspot:spot=none:=by
   obtain ⟨cs',h1,h2⟩:=hG 0 (by omega);have:=(World.cells?_some h1).2.2 0 (by omega);rw [h2] at this;simpa [Addr.add,bS] using World.cell?_spot this
  subst hspot;refine ⟨b,off,rfl,fun i hi j v hv=>?_⟩;obtain ⟨cs',h1,h2⟩:=hG i hi;have hc:=(World.cells?_some h1).2.2;rw [h2] at hc;rw [hgi i hi] at hv;simp only [aFu] at hc
  have hj:j<4:=by
   rcases Nat.lt_or_ge j 4 with h|h
   .exact h
   .rw [xO (by rw [bM];exact h)] at hv;cases hv
  rw [hc j (by omega),<- hv]
set_option maxRecDepth 100000 in
theorem aLx {H:Type}{enc:TypeId×Value->H}{w:qw}{base:Nat}{held:Bool}{spare:Nat->Bool}{fuel:Nat}{cs:List Value}{x:DataW H×List MemPlace}
 (h:DataW.trod enc Tryz.prog w base spare held fuel 146 cs=some x):∃ g:FrT,cs=cP g:=by
 obtain ⟨xs,n,_,_,hl,hlen,hf⟩:=DataW.trod_struct Tryz.underlying146 h;have e6:Tryz.prog.cellsOf 146=4:=by kernel_rfl
 rw [e6] at hl
 match xs,hlen,cs,hl with
 | [y0,y1,y2,y3],_,[c0,c1,c2,c3],_=>
 have k0:=hf 0 _ rfl;have k1:=hf 1 _ rfl;have k2:=hf 2 _ rfl;have k3:=hf 3 _ rfl;have e3:Tryz.prog.cellsOf 3=1:=by kernel_rfl
 have e4:Tryz.prog.cellsOf 4=1:=by kernel_rfl
 simp [e3,e4] at k0 k1 k2 k3;obtain ⟨a0,h0,_,wa⟩:=DataW.trod_int Tryz.underlying3 k0;obtain ⟨a1,h1,_,wb⟩:=DataW.trod_int Tryz.underlying3 k1;obtain ⟨a2,h2,_,wc⟩:=DataW.trod_int Tryz.underlying3 k2;obtain ⟨a3,h3,_,wd⟩:=DataW.trod_int Tryz.underlying3 k3;simp at h0 h1 h2 h3;subst h0 h1 h2 h3;exact ⟨(a0,a1,a2,a3),rfl⟩
set_option maxRecDepth 100000 in
theorem aFx {H:Type}{enc:TypeId×Value->H}{w:qw}{x:DataW H×List MemPlace}
 (h:DataW.trod enc Tryz.prog w base (fun _=>true) held fuel 32 cs=some x):∃ a n cap zs,cs=[qS a n cap]/\QS cP zFr w a n cap zs:=by
 have e1:Tryz.prog.cellsOf 146=4:=by kernel_rfl
 rcases Deep.open_slice Tryz.underlying32 h with ⟨hcs,_⟩|⟨a,len,cap,m,n,D,Pl,hcs,hb,hl,hm,hmm,hx,hd⟩
 .exact ⟨none,0,0,[],hcs,rfl,xC _,fun h=>absurd rfl h,aN⟩
 .simp at hmm;rw [hmm] at hd;rw [e1] at hd
  obtain ⟨G,hG⟩:=Deep.choose_lt (α:=FrT) (p:=fun i g=>∃ cs',w.cells? base (a.add (i*4)) 4=some cs'/\cs'=cP g) (n:=len) (fun i hi=>by
   obtain ⟨cs',h1,h2⟩:=hd i (by omega);obtain ⟨s,e⟩:=aLx h2
   exact ⟨s,cs',h1,e⟩)
  have hgi:∀ i,i<len->((List.range len).map G).getD i zFr=G i:=fun i hi=>by simp [xB,hi]
  refine ⟨some a,len,cap,(List.range len).map G,hcs,by simp,by omega,?_,hl⟩;intro hn;obtain ⟨b,off,spot⟩:=a
  have hspot:spot=none:=by
   obtain ⟨cs',h1,h2⟩:=hG 0 (by omega);have:=(World.cells?_some h1).2.2 0 (by omega);rw [h2] at this;simpa [Addr.add,cP] using World.cell?_spot this
  subst hspot;refine ⟨b,off,rfl,fun i hi j v hv=>?_⟩;obtain ⟨cs',h1,h2⟩:=hG i hi;have hc:=(World.cells?_some h1).2.2;rw [h2] at hc;rw [hgi i hi] at hv;simp only [aFu] at hc
  have hj:j<4:=by
   rcases Nat.lt_or_ge j 4 with h|h
   .exact h
   .rw [xO (by rw [dI];exact h)] at hv;cases hv
  rw [hc j (by omega),<- hv]
theorem aNn {α:Type}{cs:Array α}(h:cs.size=15):∃ c0 c1 c2 c3 c4 c5 c6 c7 c8 c9 c10 c11 c12 c13 c14,cs=#[c0,c1,c2,c3,c4,c5,c6,c7,c8,c9,c10,c11,c12,c13,c14]:=by
 obtain ⟨l⟩:=cs
 match l,h with
 | [c0,c1,c2,c3,c4,c5,c6,c7,c8,c9,c10,c11,c12,c13,c14],_=>exact ⟨c0,c1,c2,c3,c4,c5,c6,c7,c8,c9,c10,c11,c12,c13,c14,rfl⟩
theorem aBi {H:Type}{enc:TypeId×Value->H}{w:qw}{base:Nat}{held:Bool}{spare:Nat->Bool}{fuel:Nat}{c0 c1 c2 c3:Value}{x:DataW H×List MemPlace}
 (h:DataW.trod enc Tryz.prog w base spare held fuel 24 [c0,c1,c2,c3]=some x):∃ a0 a1 a2 a3,c0=qI a0/\c1=qI a1/\c2=qI a2/\c3=qI a3:=by
 obtain ⟨xs,n,_,_,hl,hlen,hf⟩:=DataW.trod_struct Tryz.underlying24 h
 match xs,hlen with
 | [y0,y1,y2,y3],_=>
 have k0:=hf 0 _ rfl;have k1:=hf 1 _ rfl;have k2:=hf 2 _ rfl;have k3:=hf 3 _ rfl;have e3:Tryz.prog.cellsOf 3=1:=by kernel_rfl
 simp [e3] at k0 k1 k2 k3;obtain ⟨a0,h0,_,_⟩:=DataW.trod_int Tryz.underlying3 k0;obtain ⟨a1,h1,_,_⟩:=DataW.trod_int Tryz.underlying3 k1;obtain ⟨a2,h2,_,_⟩:=DataW.trod_int Tryz.underlying3 k2;obtain ⟨a3,h3,_,_⟩:=DataW.trod_int Tryz.underlying3 k3;simp at h0 h1 h2 h3;exact ⟨a0,a1,a2,a3,h0,h1,h2,h3⟩
theorem aFi {H:Type}{enc:TypeId×Value->H}{w:qw}{base:Nat}{held:Bool}{fuel:Nat}{c0 c1:Value}{x:DataW H×List MemPlace}
 (h:DataW.trod enc Tryz.prog w base (fun _=>true) held fuel 27 [c0,c1]=some x):∃ pc a n c zs,c0=qI pc/\c1=qS a n c/\IS w a n c zs:=by
 obtain ⟨xs,n,_,_,hl,hlen,hf⟩:=DataW.trod_struct Tryz.underlying27 h
 match xs,hlen with
 | [y0,y1],_=>
 have k0:=hf 0 _ rfl;have k1:=hf 1 _ rfl;have e3:Tryz.prog.cellsOf 3=1:=by kernel_rfl
 have e4:Tryz.prog.cellsOf 25=1:=by kernel_rfl
 simp [e3,e4] at k0 k1;obtain ⟨a0,h0,_,_⟩:=DataW.trod_int Tryz.underlying3 k0;obtain ⟨a1,n1,d1,x1,h1,b1⟩:=aE3 k1;simp at h0 h1;exact ⟨a0,a1,n1,d1,x1,h0,h1,b1⟩
theorem aH9 {H:Type}{enc:TypeId×Value->H}{w:qw}{base:Nat}{held:Bool}{fuel:Nat}{c0 c1 c2:Value}{x:DataW H×List MemPlace}
 (h:DataW.trod enc Tryz.prog w base (fun _=>true) held fuel 30 [c0,c1,c2]=some x):∃ a1 n1 d1 x1 a2 n2 d2 x2 a3 n3 d3 x3,c0=qS a1 n1 d1/\c1=qS a2 n2 d2/\c2=qS a3 n3 d3/\BS w a1 n1 d1 x1/\BS w a2 n2 d2 x2/\BS w a3 n3 d3 x3:=by
 obtain ⟨xs,n,_,_,hl,hlen,hf⟩:=DataW.trod_struct Tryz.underlying30 h
 match xs,hlen with
 | [y0,y1,y2],_=>
 have k0:=hf 0 _ rfl;have k1:=hf 1 _ rfl;have k2:=hf 2 _ rfl;have e3:Tryz.prog.cellsOf 28=1:=by kernel_rfl
 simp [e3] at k0 k1 k2;obtain ⟨a1,n1,d1,x1,e1,b1⟩:=jK k0;obtain ⟨a2,n2,d2,x2,e2,b2⟩:=jK k1;obtain ⟨a3,n3,d3,x3,e3,b3⟩:=jK k2;simp at e1 e2 e3;exact ⟨a1,n1,d1,x1,a2,n2,d2,x2,a3,n3,d3,x3,e1,e2,e3,b1,b2,b3⟩
set_option maxRecDepth 100000 in
theorem aAp {H:Type}{enc:TypeId×Value->H}{w:qw}{base b0:Nat}{held:Bool}{r:Reach}{v:Value}{d:DataW H}{p:List MemPlace}
 (hv:Value.okWide Tryz.prog w r b0 34 v) (h:DataW.Trod enc Tryz.prog w base (fun _=>true) held 34 v d p):
 ∃ M:Mn,v=.agg (qA M)/\MnT w M:=by
 obtain ⟨cs,rfl,hsz⟩:=okWide_struct Tryz.underlying34 hv;obtain ⟨c0,c1,c2,c3,c4,c5,c6,c7,c8,c9,c10,c11,c12,c13,c14,rfl⟩:=aNn (hsz.trans (by kernel_rfl));obtain ⟨fuel,hf⟩:=h;obtain ⟨xs,n,_,_,hl,hlen,hf⟩:=DataW.trod_struct Tryz.underlying34 hf
 match xs,hlen with
 | [y0,y1,y2,y3,y4,y5,y6,y7,y8],_=>
 have k0:=hf 0 _ rfl;have k1:=hf 1 _ rfl;have k2:=hf 2 _ rfl;have k3:=hf 3 _ rfl;have k4:=hf 4 _ rfl;have k5:=hf 5 _ rfl;have k6:=hf 6 _ rfl;have k7:=hf 7 _ rfl;have k8:=hf 8 _ rfl;have e1:Tryz.prog.cellsOf 3=1:=by kernel_rfl
 have e2:Tryz.prog.cellsOf 22=1:=by kernel_rfl
 have e3:Tryz.prog.cellsOf 24=4:=by kernel_rfl
 have e4:Tryz.prog.cellsOf 27=2:=by kernel_rfl
 have e5:Tryz.prog.cellsOf 30=3:=by kernel_rfl
 have e6:Tryz.prog.cellsOf 31=1:=by kernel_rfl
 have e7:Tryz.prog.cellsOf 32=1:=by kernel_rfl
 simp [Value.cells,e1,e2,e3,e4,e5,e6,e7] at k0 k1 k2 k3 k4 k5 k6 k7 k8;obtain ⟨ma,mn,mc,ms,h0,w0⟩:=aEi k0;obtain ⟨cs,cw,ck,cd,h1a,h1b,h1c,h1d⟩:=aBi k1;obtain ⟨pc,ka,kn,kc,kz,h2a,h2b,w2⟩:=aFi k2;obtain ⟨fa,fn,fc,fz,ra,rn,rc,rz,oa,on,oc,oz,h3a,h3b,h3c,w3,w4,w5⟩:=aH9 k3;obtain ⟨md,h4,_,_⟩:=DataW.trod_int Tryz.underlying3 k4;obtain ⟨bk,h5,_,_⟩:=DataW.trod_int Tryz.underlying3 k5;obtain ⟨la,ln,lc,lz,h6,w6⟩:=aFv k6;obtain ⟨ha,hn,hc,hz,h7,w7⟩:=aFx k7;obtain ⟨tn,h8,_,_⟩:=DataW.trod_int Tryz.underlying3 k8;simp at h0 h4 h5 h6 h7 h8;subst h0 h1a h1b h1c h1d h2a h2b h3a h3b h3c h4 h5 h6 h7 h8;exact ⟨⟨ma,mn,mc,ms,cs,cw,ck,cd,pc,ka,kn,kc,kz,fa,fn,fc,fz,ra,rn,rc,rz,oa,on,oc,oz,md,bk,la,ln,lc,lz,ha,hn,hc,hz,tn⟩,rfl,w0,w2,w3,w4,w5,w6,w7⟩
