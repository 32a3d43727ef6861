import Derived.Laws.AppendOwnNone
import Derived.Test.YtncccmeomcaabaaGreatR12
import Derived.Test.YtncccmeomcaabaaGreatR15
import Derived.Test.YtncccmeomcaabaaGreatR17
import Derived.Test.YtncccmeomcaabaaGreatR18
set_option linter.all false
set_option maxHeartbeats 8000000
namespace Go.Proofs.YtncccmeomcaabaaGreat
open Go.RowKit Classical
set_option maxRecDepth 100000
variable {c d k s:Int}
structure Kst (w W:qw)(s c k d:Int):Prop where
 be:qY w W
 k0:Blk W w.heap.size (qW s c k d) 37
 k1:Blk W (w.heap.size+1) zL 71
 k2:Blk W (w.heap.size+2) zL 71
theorem Kst.bw {w W W':qw}(h:Kst w W s c k d)(hb:qY W W'):Kst w W' s c k d:=⟨h.be.trans (hb.mono h.be.size),h.k0.bw hb,h.k1.bw hb,h.k2.bw hb⟩
theorem Kst.drew {w W:qw}(h:Kst w W s c k d):Kst w W.drew s c k d:=⟨h.be.drew,h.k0,h.k1,h.k2⟩
theorem aMt (w:qw)(s c k d:Int):Kst w (((w.alloc (.cells (qW s c k d) 37)).alloc (.cells qz 71)).alloc (.cells qz 71)) s c k d:=by
 have k0:=Blk.new w (qW s c k d) 37;have b0:qY w (w.alloc (.cells (qW s c k d) 37)):=bal;have s0:(w.alloc (.cells (qW s c k d) 37)).heap.size=w.heap.size+1:=by simp
 generalize w.alloc (.cells (qW s c k d) 37)=W0 at *;have k1:=Blk.new W0 qz 71;have b1:qY W0 (W0.alloc (.cells qz 71)):=bal;have s1:(W0.alloc (.cells qz 71)).heap.size=w.heap.size+2:=by simp [s0]
 rw [s0] at k1;generalize W0.alloc (.cells qz 71)=W1 at *;have k2:=Blk.new W1 qz 71;have b2:qY W1 (W1.alloc (.cells qz 71)):=bal;rw [s1] at k2;have c12:=b1.trans (b2.mono (by omega));exact ⟨b0.trans (c12.mono (by omega)),k0.bw c12,k1.bw b2,k2⟩
theorem aCm {w W:qw}(k1:Blk W (w.heap.size+1) zL 71)(v0 v1 v2 v3 v4 v5:Value)(V:Int)(Q:Ending->World->Prop)(tmps:Array Value)(h4:tmps[4]?=some (.pointer (some (qR (w.heap.size+1) 0))))(h5:tmps[5]?=some (qI V))(hQ:Q (.returned (.tuple #[.agg #[v0,v1,v2,v3,v4,v5],qI V])) (st6 W (w.heap.size+1) v0 v1 v2 v3 v4 v5)):
 bodyPost Tryz.prog Tryz.f74 Q Exit.ret ⟨tmps,[]⟩ (st6 W (w.heap.size+1) v0 v1 v2 v3 v4 v5):=by
 have k:=jI k1 v0 v1 v2 v3 v4 v5;obtain ⟨t0,t1,t2,t3,t4,t5⟩:=k.z6;refine bodyPost_ret_by (v:=.tuple #[.agg #[v0,v1,v2,v3,v4,v5],qI V]) ?_ rfl hQ;simp [results,Tryz.results74,go_sem,h4,h5,t0,t1,t2,t3,t4,t5]
theorem mX {w W:qw}{ps:List PMod}{V:Int}(S:Kst w W s c k d)(hV:lkc ps s c k d=V)(h0:V≠0)(tmps:Array Value)(h4:tmps[4]?=some (.pointer (some (qR (w.heap.size+1) 0))))(h5:tmps[5]?=some (qI V)):
 bodyPost Tryz.prog Tryz.f74 (LkM w ps s c k d) Exit.ret ⟨tmps,[]⟩ (st6 W (w.heap.size+1) (qS none 0 0) (qI 0) (qS none 0 0) (qI 0) (qI 0) (qS none 0 0)):=
 aCm S.k1 _ _ _ _ _ _ V _ tmps h4 h5 (aF4 (aG S.be (cD _ _ _ _ _ _ _ _) (fun j hj=>by have e:j=w.heap.size+1:=hj;omega) S.be.size) hV h0)
theorem wE (a:qO)(n cap:Nat)(ms:List Md)(s c k d:Int)(w:qw)(h:MSD w a n cap ms):
 qC 74 #[qS a n cap,.agg (qW s c k d)] w (LkM w (aE ms) s c k d):=by
 have K0:=aMt w s c k d;have hl:=h.s.1;have hpl:(aE ms).length=n:=by rw [bQ,hl]
 have HH:=zh h;have HSND:=zh (fun (W:qw) (hb:qY w W)=>aCo a n cap ms s c k d W (h.bw hb));obtain ⟨V,hV⟩:=eqx (dS (aE ms) s c k d);rw [<- hV] at HSND;have HV:=zh hV;have HK:=zh K0;obtain ⟨c0,c1,c2,c3⟩:=K0.k0.z4;clear h K0 hV;go_enter Tryz.func74,Tryz.ntmps74
 go_wp2_with fail
 refine (HSND.o _ HK.o.be).mono ?_;rintro e w1 ⟨rfl,hb1⟩;have S1:=HK.o.bw hb1;clear hb1 c0 c1 c2 c3 HK;by_cases hV0:V=0
 .have hs4:=HV.o;rw [hV0] at hs4;obtain ⟨hcf,h4,hvl⟩:=rJ hs4.symm;have HS4:=zh hs4.symm;have HVL:=zh hvl;have HCF:=zh hcf;rw [hpl] at h4;subst hV0;clear hs4 hvl hcf;have HK1:=zh S1;clear S1;go_wp2;go_loopw [7] (fun i wr=>∃ m:Nat,m<=n/\i=qI m/\(∀ j,j<m->pJ (aE ms) ((aE ms).getD j zP))/\Kst w wr s c k d) (qf n)
  .exact ⟨0,xC _,rfl,fun j hj=>absurd hj (by omega),HK1.o⟩
  .clear HK1;obtain ⟨m,hm,rfl,hv,S⟩:=hrel;by_cases hlt:m<n
   .have hlt':(m:Int)<(n:Int):=by omega
    have H:=HH.o.bw S.be;obtain ⟨b,off,rfl,q0,q1,q2,q3,q4,q5,q6,q7⟩:=H.s.at m hlt;have HTA:=zh (lS (some (qR b off)) n cap ms (ms.getD m aK) wr H HVL.o h4 (H.d m hlt) (by rw [<- cG];exact HVL.o m (by omega)));have HEP:=zh (cG (ms:=ms) (i:=m));have HG:=zh (xA hv S);generalize ms.getD m aK=M at *;clear H hv S;go_wp2_with fail
    refine HTA.o.mono ?_;rintro e w2 ⟨hb2,H2⟩;have S2:=HG.o.2.bw hb2;clear hb2 HTA q0 q1 q2 q3 q4 q5 q6 q7;rcases H2 with ⟨hno,v,rfl⟩|⟨hyes,at',ct',rfl,_⟩
    .have HP:=zh (aNp (d:=d) (k:=k) (w:=c) (s:=s) HS4.o (fun hi=>hno (by rw [<- HEP.o];exact hi m (by omega))));have HS:=zh S2;obtain ⟨u0,u1,u2,u3,u4,u5⟩:=S2.k2.z6;obtain ⟨p0,p1,p2,p3,p4,p5⟩:=S2.k1.z6;have y0:=S2.k1.frozen;clear S2 hno;go_wp2;exact mX HS.o HP.o (by decide) _ rfl rfl
    .have HV2:=zh (show ∀ j,j<m+1->pJ (aE ms) ((aE ms).getD j zP) from fun j hj=>by
      by_cases e:j=m
      .subst e;rw [HEP.o];exact hyes
      .exact HG.o.1 j (by omega))
     have HS:=zh S2;clear S2 hyes;go_wp2
     go_roundw
     .exact ⟨m+1,by omega,by go_num,HV2.o,HS.o⟩
     .simp [qf,intOf];omega
   .have hlt':¬ (m:Int)<(n:Int):=by omega
    have HI:Zh (jQ (aE ms)):=fun i hi=>hv i (by omega);have HTL:=zh (vJ a n cap ms s c k d wr (HH.o.bw S.be));obtain ⟨B,hB⟩:=eqx (decide (0<s/\¬ jT (aE ms) c));rw [<- hB] at HTL;have HB:=zh hB;have HS:=zh S;obtain ⟨c0,c1,c2,c3⟩:=S.k0.z4;clear S hv hB;go_wp2_with fail
    refine HTL.o.mono ?_;rintro e w3 ⟨rfl,hb3⟩;have S3:=HS.o.bw hb3;clear hb3 HTL HS c0 c1 c2 c3;cases B with
    | true=>
      have HP:=zh (aNo (d:=d) (k:=k) HS4.o HI.o (of_decide_eq_true HB.o.symm));have HS:=zh S3;obtain ⟨u0,u1,u2,u3,u4,u5⟩:=S3.k2.z6;obtain ⟨p0,p1,p2,p3,p4,p5⟩:=S3.k1.z6;have y0:=S3.k1.frozen;clear S3;go_wp2;exact mX HS.o HP.o (by decide) _ rfl rfl
    | false=>
      have HN6:=zh (of_decide_eq_false HB.o.symm);have HLA:=zh (aHx a n cap ms s c k d w3 (HH.o.bw S3.be) h4 HCF.o HVL.o HI.o);have HS:=zh S3;obtain ⟨c0,c1,c2,c3⟩:=S3.k0.z4;clear S3;go_wp2_with fail
      refine HLA.o.mono ?_;rintro e w4 ⟨hb4,a0,d0,xs,a2,d2,a5,d5,ts,rfl,LO⟩;have S4:=HS.o.bw hb4;obtain ⟨L,hL⟩:=eqx (lay (aE ms) s c k);rw [<- hL] at LO ⊢;have HLL:=zh hL;have al:qY w4 (w4.alloc (.cells (qL L a0 xs.length d0 a2 L.slots.length d2 a5 ts.length d5) 71)):=bal;have kL:=Blk.new w4 (qL L a0 xs.length d0 a2 L.slots.length d2 a5 ts.length d5) 71;have S5:=S4.bw al;have LO5:LayO (w4.alloc (.cells (qL L a0 xs.length d0 a2 L.slots.length d2 a5 ts.length d5) 71)) w3.heap.size L a0 d0 xs a2 d2 a5 d5 ts:=⟨LO.p.bw al,LO.ps,LO.s.bw al,LO.t.bw al,LO.tt,LO.sp⟩;have hs34:=hb4.size;have hs3:=HS.o.k2.lt;obtain ⟨l0,l1,l2,l3,l4,l5⟩:=kL.z6;have HS5:=zh (xA S5 LO5);have hz5:(w4.alloc (.cells (qL L a0 xs.length d0 a2 L.slots.length d2 a5 ts.length d5) 71)).heap.size=w4.heap.size+1:=by simp
      clear hb4 S4 LO al kL hL HS HLA c0 c1 c2 c3;unfold mF;by_cases h7:16384<L.flash
      .have HP:=zh (aNn (d:=d) HS4.o HI.o HN6.o (by rw [<- HLL.o];exact h7));obtain ⟨u0,u1,u2,u3,u4,u5⟩:=S5.k2.z6;obtain ⟨p0,p1,p2,p3,p4,p5⟩:=S5.k1.z6;have y0:=S5.k1.frozen;clear S5 LO5;go_wp2;exact mX HS5.o.1 HP.o (by decide) _ rfl rfl
      .have h7':¬ 16384<L.flash:=h7;by_cases h8:16384<L.ram
       .have HP:=zh (aNm (d:=d) HS4.o HI.o HN6.o (by rw [<- HLL.o];exact h7) (by rw [<- HLL.o];exact h8));obtain ⟨u0,u1,u2,u3,u4,u5⟩:=S5.k2.z6;obtain ⟨p0,p1,p2,p3,p4,p5⟩:=S5.k1.z6;have y0:=S5.k1.frozen;clear S5 LO5;go_wp2;exact mX HS5.o.1 HP.o (by decide) _ rfl rfl
       .have HP:=zh (aNr (d:=d) HS4.o HI.o HN6.o (by rw [<- HLL.o];exact h7) (by rw [<- HLL.o];exact h8));obtain ⟨p0,p1,p2,p3,p4,p5⟩:=S5.k1.z6;have y0:=S5.k1.frozen;clear S5 LO5;go_wp2;refine aCm HS5.o.1.k1 _ _ _ _ _ _ 0 _ _ rfl rfl ?_;obtain ⟨S5,LO5⟩:=HS5.o;have t:=cD (w4.alloc (.cells (qL L a0 xs.length d0 a2 L.slots.length d2 a5 ts.length d5) 71)) (w.heap.size+1) (qS a0 xs.length d0) (qI L.stack) (qS a2 L.slots.length d2) (qI L.flash) (qI L.ram) (qS a5 ts.length d5);refine ⟨aG S5.be t (fun j hj=>by have e:j=w.heap.size+1:=hj;omega) S5.be.size,a0,d0,xs,a2,d2,a5,d5,ts,?_,?_⟩
        .unfold lkL;rw [if_pos HP.o,HP.o,<- HLL.o];rfl
        .unfold lkL;rw [if_pos HP.o,<- HLL.o];have hno:∀ k,w3.heap.size<=k->¬ (k=w.heap.size+1):=fun k hk e=>by omega
         exact ⟨(LO5.p.kept t (fun k hk=>hno k (LO5.p.lt.1 k hk).1) (fun x hx k hk=>hno k (LO5.p.lt.2 x hx k hk).1)).mono (by omega) (by omega),LO5.ps,(LO5.s.kept t (fun k hk=>hno k (LO5.s.lt k hk).1)).mono (by omega),(LO5.t.kept t (fun k hk=>hno k (LO5.t.lt.1 k hk).1) (fun x hx k hk=>hno k (LO5.t.lt.2 x hx k hk).1)).mono (by omega) (by omega),LO5.tt,LO5.sp⟩
 .have hV0':(V !=0)=true:=by simp [hV0]
  have HP:=zh (aNq (ps:=aE ms) HV.o.symm hV0);have HS:=zh S1;obtain ⟨u0,u1,u2,u3,u4,u5⟩:=S1.k2.z6;obtain ⟨p0,p1,p2,p3,p4,p5⟩:=S1.k1.z6;have y0:=S1.k1.frozen;obtain ⟨c0,c1,c2,c3⟩:=S1.k0.z4;clear S1;go_wp2_with fail
  go_region_law (first
   | (go_simp;go_at_call 138;refine (HSND.o _ (by first|exact HS.o.be|exact HS.o.drew.be)).mono ?_;rintro e w12 ⟨rfl,hb12⟩;have HE2:=zh (show Kst w w12 s c k d from (by first|exact HS.o.bw hb12|exact HS.o.drew.bw hb12));have vu0:w12.cell? (qR (w.heap.size+1+1) 0)=some (qS none 0 0):=HE2.o.k2.cell 0;have vu1:w12.cell? (qR (w.heap.size+1+1) 1)=some (qI 0):=HE2.o.k2.cell 1;have vu2:w12.cell? (qR (w.heap.size+1+1) 2)=some (qS none 0 0):=HE2.o.k2.cell 2;have vu3:w12.cell? (qR (w.heap.size+1+1) 3)=some (qI 0):=HE2.o.k2.cell 3;have vu4:w12.cell? (qR (w.heap.size+1+1) 4)=some (qI 0):=HE2.o.k2.cell 4;have vu5:w12.cell? (qR (w.heap.size+1+1) 5)=some (qS none 0 0):=HE2.o.k2.cell 5;have vp0:w12.cell? (qR (w.heap.size+1) 0)=some (qS none 0 0):=HE2.o.k1.cell 0;have vp1:w12.cell? (qR (w.heap.size+1) 1)=some (qI 0):=HE2.o.k1.cell 1;have vp2:w12.cell? (qR (w.heap.size+1) 2)=some (qS none 0 0):=HE2.o.k1.cell 2;have vp3:w12.cell? (qR (w.heap.size+1) 3)=some (qI 0):=HE2.o.k1.cell 3;have vp4:w12.cell? (qR (w.heap.size+1) 4)=some (qI 0):=HE2.o.k1.cell 4;have vp5:w12.cell? (qR (w.heap.size+1) 5)=some (qS none 0 0):=HE2.o.k1.cell 5;have vy0:w12.frozen? (qR (w.heap.size+1) 0)=false:=HE2.o.k1.frozen 0;have vy1:w12.frozen? (qR (w.heap.size+1) 1)=false:=HE2.o.k1.frozen 1;have vy2:w12.frozen? (qR (w.heap.size+1) 2)=false:=HE2.o.k1.frozen 2;have vy3:w12.frozen? (qR (w.heap.size+1) 3)=false:=HE2.o.k1.frozen 3;have vy4:w12.frozen? (qR (w.heap.size+1) 4)=false:=HE2.o.k1.frozen 4;have vy5:w12.frozen? (qR (w.heap.size+1) 5)=false:=HE2.o.k1.frozen 5;have vc0:w12.cell? (qR w.heap.size 0)=some (qI s):=HE2.o.k0.cell 0;have vc1:w12.cell? (qR w.heap.size 1)=some (qI c):=HE2.o.k0.cell 1;have vc2:w12.cell? (qR w.heap.size 2)=some (qI k):=HE2.o.k0.cell 2;have vc3:w12.cell? (qR w.heap.size 3)=some (qI d):=HE2.o.k0.cell 3;clear hb12))
  all_goals
   go_wp2;exact mX HE2.o HP.o hV0 _ rfl rfl
end Go.Proofs.YtncccmeomcaabaaGreat
namespace Go.Proofs.YtncccmeomcaabaaGreat
open Go Go.Maps Go.WideShapes
open Go.RowKit Classical
set_option maxRecDepth 100000
variable {M:Md}{P:Prop}{R cap n q:Nat}{a:qO}{b m:Int}{ms:List Md}{ps:List PMod}
theorem vG (a:qO)(n cap:Nat)(ms:List Md)(s c k d:Int)(w:qw)(h:MSD w a n cap ms):
 qC 185 #[qS a n cap,.agg (qW s c k d)] w (qB w (qI (dS (aE ms) s c k d))):=by
 have hA:qY w (w.alloc (.cells (qW s c k d) 37)):=bal;have hl:=h.s.1;have hm1:=h.s.2.1;unfold maxLen at hm1;have hpl:=bQ ms;have HH:=zh h;have HC:=zh (fun W=>vO s c k d W);clear h;go_enter Tryz.func185,Tryz.ntmps185
 go_wp2_with fail
 refine (HC.o _).mono ?_;rintro e w1 ⟨rfl,hb1⟩;have HB1:=zh (hA.trans (hb1.mono (by simp)));clear hA hb1 HC;cases hcf:cfo s c k d with
 | false=>
   have HS:=zh (aIr (ps:=aE ms) hcf);go_wp2;go_ret;exact ⟨aH HS.o.symm,HB1.o⟩
 | true=>
   by_cases hn2:n<1\/4<n
   .have HS:=zh (aIq (ps:=aE ms) hcf (by omega));by_cases hn1:n<1
    .have hn1':(n:Int)<1:=by omega
     clear hn2;go_wp2;go_ret;exact ⟨aH HS.o.symm,HB1.o⟩
    .have hn1':¬ (n:Int)<1:=by omega
     have hn4':(4:Int)<(n:Int):=by omega
     clear hn2;go_wp2;go_ret;exact ⟨aH HS.o.symm,HB1.o⟩
   have hn1':¬ (n:Int)<1:=by omega
   have hn4':¬ (4:Int)<(n:Int):=by omega
   have HN2:=zh (show ¬ ((aE ms).length<1\/4<(aE ms).length) by rw [hpl,hl];exact hn2);clear hn2;go_wp2;go_loopw [20] (fun i wr=>∃ m:Nat,m<=n/\i=qI m/\(∀ j,j<m->fA ((aE ms).getD j zP)=0)/\qY w wr) (qf n)
   .exact ⟨0,xC _,rfl,fun j hj=>absurd hj (by omega),HB1.o⟩
   .obtain ⟨m,hm,rfl,hv,B⟩:=hrel;by_cases hlt:m<n
    .have hlt':(m:Int)<(n:Int):=by omega
     have H:=HH.o.bw B;obtain ⟨b,off,rfl,q0,q1,q2,q3,q4,q5,q6,q7⟩:=H.s.at m hlt;have HOK:=zh (fun (W:qw) (hb:qY wr W)=>Md.okI (MD.bw (H.d m hlt) hb));obtain ⟨V,hV⟩:=eqx (fA (ms.getD m aK).pm);rw [<- hV] at HOK;have HVV:=zh (hV.trans (by rw [<- cG]));have HV:=zh hv;have HB:=zh B;generalize ms.getD m aK=M at *;have al:qY wr (wr.alloc (.cells (qM M.nm M.ta M.tn M.tc M.ba M.bn M.bc M.da M.dn M.dc M.bss M.ra M.rn M.rc M.ia M.im M.ic M.ea M.en M.ec) 138)):=bal;obtain ⟨g0,g1,g2,g3,g4,g5,g6,g7⟩:=(Blk.new wr (qM M.nm M.ta M.tn M.tc M.ba M.bn M.bc M.da M.dn M.dc M.bss M.ra M.rn M.rc M.ia M.im M.ic M.ea M.en M.ec) 138).eight;have HAL:=zh al;clear hv B H hV al;go_wp2_with fail
     refine (HOK.o _ HAL.o).mono ?_;rintro e w2 ⟨rfl,hb2⟩;have hb2':=HAL.o.trans (hb2.mono HAL.o.size);have HB2:=zh (HB.o.trans (hb2'.mono HB.o.size));clear hb2 hb2' HOK HB HAL q0 q1 q2 q3 q4 q5 q6 q7 g0 g1 g2 g3 g4 g5 g6 g7;by_cases hz:V=0
     .subst hz
      have HV2:=zh (show ∀ j,j<m+1->fA ((aE ms).getD j zP)=0 from fun j hj=>by
       by_cases e:j=m
       .subst e;exact HVV.o.symm
       .exact HV.o j (by omega))
      go_wp2
      go_roundw
      .exact ⟨m+1,by omega,by go_num,HV2.o,HB2.o⟩
      .simp [qf,intOf];omega
     .have hz':(V !=0)=true:=by simp [hz]
      have HS:=zh (aIp (ps:=aE ms) hcf HN2.o m (by omega) (by rw [<- HVV.o];exact hz));go_wp2;go_ret;exact ⟨aH HS.o.symm,HB2.o⟩
    .have hlt':¬ (m:Int)<(n:Int):=by omega
     have HV:Zh (fO (aE ms)):=fun i hi=>hv i (by omega);have HB:=zh B;have HF:=zh (nD a n cap ms wr (HH.o.s.bw B) (by omega));have hsz:=mH (cS ms) n;have HNS:=zh (aJq (ms:=ms) hl);obtain ⟨Sz,hSz⟩:=eqx (size (fd (cS ms) n));have HSZ:=zh hSz;rw [<- hSz] at hsz HNS;clear hv B hSz;go_wp2_with fail
     refine HF.o.mono ?_;rintro e w2 ⟨rfl,hown,hb2⟩;have hlen:∀ ty,(Builtin.len_ #[176] ty #[.map (some wr.heap.size)]).run Tryz.prog w2=.ok (qI (Sz:Int)) w2:=by intro ty;rw [HSZ.o];exact hown.len Tryz.underlying176 ty
     have HB2:=zh (HB.o.trans (hb2.mono HB.o.size));clear hown hb2 HF HB;by_cases he:Sz=n
     .have HS:=zh (aIs (d:=d) hcf HN2.o HV.o (HNS.o.1 he));subst he;have hne:((Sz:Int) !=(Sz:Int))=false:=by simp
      go_wp2;go_ret;exact ⟨aH HS.o.symm,HB2.o⟩
     .have HS:=zh (show dS (aE ms) s c k d=4 by
       unfold dS
       rw [if_neg (by rw [hcf];decide),if_neg HN2.o,if_neg (fun e=>e HV.o),if_pos (fun e=>he (HNS.o.2 e))])
      have hne:((Sz:Int) !=(n:Int))=true:=by simp;omega
      go_wp2;go_ret;exact ⟨aH HS.o.symm,HB2.o⟩
def GB (ps:List PMod)(m q R:Nat):Prop:=(∀ i,i<ps.length->∀ k,k<(ps.getD i zP).bl.length->(i<m\/(i=m/\k<q))->((ps.getD i zP).bl.getD k []).length<=R)/\(R=0\/∃ i,i<ps.length/\∃ k,k<(ps.getD i zP).bl.length/\((ps.getD i zP).bl.getD k []).length=R)
theorem aMz (ps:List PMod):GB ps 0 0 0:=⟨fun i _ k _ h=>by omega,.inl rfl⟩
theorem GB.next {m:Nat}(h:GB ps m q R)(hq:(ps.getD m zP).bl.length<=q):GB ps (m+1) 0 R:=
 ⟨fun i hi k hk e=>h.1 i hi k hk (by
  by_cases e2:i=m
  .subst e2;right;exact ⟨rfl,by omega⟩
  .left;omega),h.2⟩
theorem GB.step {m:Nat}(h:GB ps m q R)(hm:m<ps.length)(hq:q<(ps.getD m zP).bl.length):GB ps m (q+1) (max R ((ps.getD m zP).bl.getD q []).length):=by
 refine ⟨fun i hi k hk e=>?_,?_⟩
 .by_cases e2:i=m/\k=q
  .obtain ⟨rfl,rfl⟩:=e2;omega
  .have:=h.1 i hi k hk (by omega);omega
 .by_cases hc:((ps.getD m zP).bl.getD q []).length<=R
  .rw [show max R ((ps.getD m zP).bl.getD q []).length=R by omega];exact h.2
  .exact .inr ⟨m,hm,q,hq,by omega⟩
theorem aF9 (h:GB ps ps.length 0 R)(w:Int)(hw:1<=w):(w<(R:Int)) ↔ ¬ jT ps w:=by
 constructor
 .intro h1 hs;rcases h.2 with h2|⟨i,hi,k,hk,e⟩
  .omega
  .have:=hs i hi k hk;omega
 .intro hs;apply Classical.byContradiction;intro hn;exact hs (fun i hi k hk=>by have:=h.1 i hi k hk (.inl hi);omega)
theorem oI (a:qO)(n cap:Nat)(ms:List Md)(w:qw)(h:MSD w a n cap ms)(hv:fO (aE ms))(hn4:n<=4):
 qC 187 #[qS a n cap] w fun e w'=>∃ R:Nat,e=.returned (qI (R:Int))/\GB (aE ms) (aE ms).length 0 R/\qY w w':=by
 have hl:=h.s.1;have hpl:(aE ms).length=n:=by rw [bQ,hl]
 have HH:=zh h;have HVL:=zh hv;clear h hv;go_enter Tryz.func187,Tryz.ntmps187
 go_wp2;go_loopw [3,10] (fun x i wr=>∃ (m R:Nat),m<=n/\i=qI m/\x=qI (R:Int)/\R<=64/\Hid (GB (aE ms) m 0 R)/\qY w wr) (fun _ i _=>n-(intOf i).toNat)
 .exact ⟨0,0,xC _,rfl,rfl,xC _,zh (aMz _),brf⟩
 .obtain ⟨m,R,hm,rfl,rfl,hR,hG,B⟩:=hrel;by_cases hlt:m<n
  .have hlt':(m:Int)<(n:Int):=by omega
   have H:=HH.o.bw B;obtain ⟨b,off,rfl,q0,q1,q2,q3,q4,q5,q6,q7⟩:=H.s.at m hlt;have hmd:=H.d m hlt;obtain ⟨P,hP⟩:=eqx ((aE ms).getD m zP);have hPM:P=(ms.getD m aK).pm:=hP.trans (cG);have hvm:=HVL.o m (by omega);rw [<- hP] at hvm;obtain ⟨_,_,_,vb,_,_,_,vbk⟩:=bZ hvm;have eB:(ms.getD m aK).bn=P.bl.length:=by rw [hPM];show _=(List.map _ _).length;rw [xH];exact hmd.b.1.symm
   have HBK:Zh (∀ j,j<P.bl.length->((ms.getD m aK).bl.getD j zB).2.1=(P.bl.getD j []).length):=fun j hj=>by rw [hPM];exact (qD hmd j (by omega)).1
   have HMB:=zh (fun (W:qw) (hb:qY wr W)=>(MD.bw hmd hb).b);have HP:=zh hP;rw [eB] at q2;have HEB:=zh eB;have HB:=zh B;generalize ms.getD m aK=M at *;generalize M.ba=ba at *;have al:qY wr (wr.alloc (.cells (qM M.nm M.ta M.tn M.tc ba P.bl.length M.bc M.da M.dn M.dc M.bss M.ra M.rn M.rc M.ia M.im M.ic M.ea M.en M.ec) 138)):=bal;obtain ⟨g0,g1,g2,g3,g4,g5,g6,g7⟩:=(Blk.new wr (qM M.nm M.ta M.tn M.tc ba P.bl.length M.bc M.da M.dn M.dc M.bss M.ra M.rn M.rc M.ia M.im M.ic M.ea M.en M.ec) 138).eight;have HAL:=zh al;clear B H hmd hP hPM eB al hvm;generalize wr=wo at *;go_wp2_with fail
   go_loopw [3,17] (fun x i wx=>∃ (q R:Nat),q<=P.bl.length/\i=qI q/\x=qI (R:Int)/\R<=64/\Hid (GB (aE ms) m q R)/\qY wo wx) (fun _ i _=>P.bl.length-(intOf i).toNat)
   .exact ⟨0,R,xC _,rfl,rfl,hR,hG,HAL.o⟩
   .obtain ⟨q,R',hq,rfl,rfl,hR',hG',B⟩:=hrel;by_cases hlt2:q<P.bl.length
    .have hlt2':(q:Int)<(P.bl.length:Int):=by omega
     obtain ⟨_,_,hcb,_,_⟩:=HMB.o wr B;obtain ⟨b2,off2,rfl,hc⟩:=hcb (by rw [HEB.o];omega);have cb:=hc q (by rw [HEB.o];exact hlt2);rw [HBK.o q hlt2] at cb;have hLq:=vbk q hlt2;obtain ⟨LQ,hLQ⟩:=eqx ((P.bl.getD q []).length);rw [<- hLQ] at cb hLq;have HG2:=zh (show GB (aE ms) m (q+1) (max R' LQ) by rw [hLQ,HP.o];exact hG'.out.step (by omega) (by rw [<- HP.o];exact hlt2));have hmx:max (R':Int) (LQ:Int)=((max R' LQ:Nat):Int):=by omega
     have HB2:=zh B;generalize M.bl.getD q zB=bq at cb;obtain ⟨bq1,bq2,bq3,bq4⟩:=bq;dsimp only at cb;clear hcb hc hLQ B;go_wp2
     go_roundw
     .exact ⟨q+1,max R' LQ,by omega,by go_num,(by rw [<- hmx];congr 1;split<;>omega),by omega,HG2,HB2.o⟩
     .simp [intOf];omega
    .have hlt2':¬ (q:Int)<(P.bl.length:Int):=by omega
     have HG2:=zh (hG'.out.next (by rw [<- HP.o];omega));have HB2:=zh (HB.o.trans (B.mono HB.o.size));clear B;go_wp2
     go_roundw
     .exact ⟨m+1,R',by omega,by go_num,rfl,hR',HG2,HB2.o⟩
     .simp [intOf];omega
  .have hlt':¬ (m:Int)<(n:Int):=by omega
   have HG:=zh (show GB (aE ms) (aE ms).length 0 R by rw [hpl,<- show m=n by omega];exact hG.out);have HB:=zh B;clear B hG;go_wp2;go_ret;exact ⟨R,rfl,by first|exact HG.o|(have:=HG.o;rw [hpl] at this;exact this),HB.o⟩
def Yn (P:Prop)(w:qw)(e:Ending)(w':qw):Prop:=∃ r:Bool,e=.returned (.bool r)/\(r=true ↔ P)/\qY w w'
theorem pH {w w':qw}(h:P)(hb:qY w w'):Yn P w (.returned (.bool true)) w':=⟨true,rfl,by simp [h],hb⟩
theorem cT {w w':qw}(h:¬ P)(hb:qY w w'):Yn P w (.returned (.bool false)) w':=⟨false,rfl,by simp [h],hb⟩
theorem aO9 {Q:Prop}[Decidable Q]{w w':qw}(h:Q ↔ P)(hb:qY w w'):Yn P w (.returned (.bool (decide Q))) w':=⟨_,rfl,by simp [h],hb⟩
theorem nT {w:qw}(h:MSD w a n cap ms)(hp:0<=pcq (aE ms) m b):(0<=m/\m<(n:Int))/\pcn (ms.getD m.toNat aK).tn (ms.getD m.toNat aK).bn (ms.getD m.toNat aK).bl b=pcq (aE ms) m b:=by
 have hn:=h.s.1;rw [<- eM h] at hp ⊢;unfold pcm at hp ⊢;rw [hn] at hp ⊢;by_cases c:0<=m/\m<(n:Int)
 .exact ⟨c,by rw [if_pos c]⟩
 .rw [if_neg c] at hp;exact absurd hp (by decide)
theorem aHg {w:qw}(h:MSD w a n cap ms)(hp:0<=pcq (aE ms) m b)(hM:ms.getD m.toNat aK=M)(X:qw)(hX:qY w X):qC 175 #[.agg (qM M.nm M.ta M.tn M.tc M.ba M.bn M.bc M.da M.dn M.dc M.bss M.ra M.rn M.rc M.ia M.im M.ic M.ea M.en M.ec),qI b] X (fun e w'=>∃ xa xn xc,e=.returned (.tuple #[qS xa xn xc,.bool true])/\(xn:Int)=pcq (aE ms) m b/\qY w w'):=by
 obtain ⟨⟨h0,h1⟩,hq⟩:=nT h hp;have hmt:=h.s.2.2.2.1 m.toNat (by omega);rw [hM] at hmt hq;refine (gQ M.nm M.ta M.tn M.tc M.ba M.bn M.bc M.bl (qS M.da M.dn M.dc) (qS M.ra M.rn M.rc) (qS M.ia M.im M.ic) (qS M.ea M.en M.ec) M.bss b X hmt.t.2.1 (hmt.b.bw hX)).mono fun e w' ⟨xa,xn,xc,ok,he,ho,hx,_,hb⟩=>?_;have ho':ok=true:=by rw [ho,hq];simp;omega
 exact ⟨xa,xn,xc,by rw [he,ho'],by rw [hx ho',hq],hX.trans (hb.mono hX.size)⟩
theorem aHy {w:qw}(h:MSD w a n cap ms)(hp:0<=pcq (aE ms) m b)(hM:ms.getD m.toNat aK=M)(X:qw)(hX:qY w X):qC 115 #[.agg (qM M.nm M.ta M.tn M.tc M.ba M.bn M.bc M.da M.dn M.dc M.bss M.ra M.rn M.rc M.ia M.im M.ic M.ea M.en M.ec),qI b] X (fun e w'=>∃ xa xn xc,e=.returned (.tuple #[qS xa xn xc,.bool true])/\(xn:Int)=pcq (aE ms) m b/\qY w w'):=by
 obtain ⟨⟨h0,h1⟩,hq⟩:=nT h hp;have hmt:=h.s.2.2.2.1 m.toNat (by omega);rw [hM] at hmt hq;refine (gR M.nm M.ta M.tn M.tc M.ba M.bn M.bc M.bl (qS M.da M.dn M.dc) (qS M.ra M.rn M.rc) (qS M.ia M.im M.ic) (qS M.ea M.en M.ec) M.bss b X hmt.t.2.1 (hmt.b.bw hX)).mono fun e w' ⟨xa,xn,xc,ok,he,ho,hx,_,hb⟩=>?_;have ho':ok=true:=by rw [ho,hq];simp;omega
 exact ⟨xa,xn,xc,by rw [he,ho'],by rw [hx ho',hq],hX.trans (hb.mono hX.size)⟩
theorem aLs {w:qw}{b off:Nat}{rs:List Rg}(h:RS w (some (qR b off)) n cap rs):∀ j u,(dO rs)[j]?=some u->w.cell? (((qR b off):Addr).add j)=some u:=by
 intro j u hj;have hl:=h.1
 have hj2:j<(dO rs).length:=by
  rcases Nat.lt_or_ge j (dO rs).length with h'|h'
  .exact h'
  .rw [xO h'] at hj;cases hj
 rw [oL] at hj2;have hq:j/6<rs.length:=by omega
 have hr:j%6<6:=Nat.mod_lt _ (by omega);have e:=oM rs (j/6) (j%6) hq hr;rw [show j/6*6+j%6=j by omega,hj] at e;obtain ⟨h1,h2,h3,h4,h5,h6⟩:=h.at (j/6) (by omega);rw [bN,show off+j=off+j/6*6+j%6 by omega];rw [e];generalize rs.getD (j/6) z6=G at *;generalize j/6=q at *;have c:j%6=0\/j%6=1\/j%6=2\/j%6=3\/j%6=4\/j%6=5:=by omega
 rcases c with c|c|c|c|c|c<;>rw [c]
 .exact h1
 .exact h2
 .exact h3
 .exact h4
 .exact h5
 .exact h6
theorem aH4 (rs:List Rg):∀ u∈dO rs,u.oneCell'=true:=by
 intro u hu;simp only [dO,List.mem_flatMap] at hu;obtain ⟨g,_,hg⟩:=hu;exact aL8 g u hg
theorem aKr (xs ys:List Rg):dO (xs++ys)=dO xs++dO ys:=by simp [dO]
abbrev Spn:=Int×Int×Bool×Bool×Bool
def spR (p:Spn):List Rg:=rts p.2.2.1 p.2.2.2.1 p.2.2.2.2 (cvL p.1 p.2.1)
def zSp:Spn:=(0,0,false,false,false)
def At5 (w:qw)(b o:Nat)(p:Spn):Prop:=
 w.cell? (qR b o)=some (qI p.1)/\w.cell? (qR b (o+1))=some (qI p.2.1)/\w.cell? (qR b (o+2))=some (.bool p.2.2.1) /\
 w.cell? (qR b (o+3))=some (.bool p.2.2.2.1)/\w.cell? (qR b (o+4))=some (.bool p.2.2.2.2)
theorem At5.bw {w w':qw}{b o:Nat}{p:Spn}(h:At5 w b o p)(hb:qY w w'):At5 w' b o p:=by
 obtain ⟨h1,h2,h3,h4,h5⟩:=h;have hl:b<w.heap.size:=xD w _ h1;unfold At5;rw [hb.cell (p:=(qR b o)) hl,hb.cell (p:=(qR b (o+1))) hl,hb.cell (p:=(qR b (o+2))) hl,hb.cell (p:=(qR b (o+3))) hl,hb.cell (p:=(qR b (o+4))) hl];exact ⟨h1,h2,h3,h4,h5⟩
theorem aFn (p:Spn):(spR p).length<=8192:=by unfold spR;rw [fQ];exact rA _ _
theorem aLm (ss:List Spn):(ss.flatMap spR).length<=8192*ss.length:=by
 induction ss with
 | nil=>simp
 | cons p ss ih=>have:=aFn p;simp only [xT,xI,List.length_cons];omega
theorem aIo (ss:List Spn)(k:Nat)(h:k<ss.length):(ss.take (k+1)).flatMap spR=(ss.take k).flatMap spR++spR (ss.getD k zSp):=by
 rw [List.take_add_one,xU];congr 1;simp [xB,h]
theorem aEl (b off n cap:Nat)(ss:List Spn)(w:qw)(hn:ss.length=n)(hn4:n<=4)(hw:∀ i,i<n->wfi (ss.getD i zSp).1/\wfi (ss.getD i zSp).2.1)(h:∀ i,i<n->At5 w b (off+i*5) (ss.getD i zSp)):
 qC 198 #[qS (some (qR b off)) n cap] w fun e w'=>∃ A m cap',e=.returned (qS A m cap')/\m=(ss.flatMap spR).length/\ORg w' w.heap.size (qS A m cap') (ss.flatMap spR)/\qY w w':=by
 obtain ⟨i0,hi,hz0,hz1,hz2⟩:=info_parts aF7;have HA:=zh h;have HW:=zh hw;have HN:=zh hn;clear h hw hn;go_enter Tryz.func198,Tryz.ntmps198
 go_wp2_with fail
 go_loopw [3,8] (fun o i wr=>∃ (A:qO) (m cap' k:Nat),k<=n/\o=qS A m cap'/\i=qI k/\ORg wr w.heap.size (qS A m cap') ((ss.take k).flatMap spR)/\qY w wr) (fun _ i _=>n-(intOf i).toNat)
 .exact ⟨none,0,0,0,xC _,rfl,rfl,qF _ _,brf⟩
 .obtain ⟨A,m,cap',k,hk,rfl,rfl,hO,hB⟩:=hrel;by_cases hlt:k<n
  .have hlt':(k:Int)<(n:Int):=by omega
   obtain ⟨p0,p1,p2,p3,p4⟩:=(HA.o k hlt).bw hB;have HT:=zh (aIo ss k (by rw [HN.o];exact hlt));have hww:=HW.o k hlt;generalize ss.getD k zSp=G at *;obtain ⟨f,s,r,x,y⟩:=G;obtain ⟨V,hV⟩:=eqx (wr.alloc (.cells #[qI f,qI s,.bool r,.bool x,.bool y] 234));have KV:Blk V wr.heap.size #[qI f,qI s,.bool r,.bool x,.bool y] 234:=by rw [hV];exact Blk.new _ _ _
   have BV:qY wr V:=by rw [hV];exact bal
   have e0:=KV.e0;have e1:=KV.e1;have e2:=KV.e2;have e3:=KV.e3;have e4:=KV.e4;have HR:=zh (aB3 f s r x y V hww.1 hww.2);have HO:=zh (eV (aJ BV) hO (fun _ _ h=>h));have HML:=zh (eZ hO).1;have HMX:=zh (show m<=32768 by have h1:=aLm (ss.take k);rw [(eZ hO).1,List.length_take,HN.o] at h1;omega);have HLE:=zh (aFz hO);have HBV:=zh (hB.trans (BV.mono hB.size));have HSV:Zh (w.heap.size<=V.heap.size):=xM hB.size BV.size;have HV:=zh hV;have HGE:=zh (fun j hj=>rZ hO j hj);clear hV KV BV hO hB hww;go_wp2_with (rw [<- HV.o])
   refine HR.o.mono ?_;rintro e w3 ⟨X,q,qc,rfl,hX,hnil,hB3⟩;have HL3:=zh (show q<=8192 by have h1:=aFn (f,s,r,x,y);have h2:=hX.1;unfold spR at h1;simp only at h1;omega);have HO3:=zh (eV (aJ hB3) HO.o (fun _ _ h=>h));have HB4:=zh (HBV.o.trans (hB3.mono HSV.o));have HSZ:Zh (w.heap.size<=w3.heap.size):=xM HSV.o hB3.size;have HX:=zh hX;have HNIL:=zh hnil;clear hX hnil hB3;have HOW:=zh (show w3.ownsRow w.heap.size 214 6 (qS A m cap') m (dO ((ss.take k).flatMap spR)) from by have:=HO3.o.1;rwa [HML.o] at this);have HSP:Zh (spR (f,s,r,x,y)=rts r x y (cvL f s)):=rfl;have HWF:=zh HX.o.2.2.1;obtain ⟨M,hM⟩:=eqx (rts r x y (cvL f s));rw [<- hM] at HX HSP HWF;have HLEN:=zh (show (dO M).length=q*6 by rw [oL,HX.o.1]);have HONE:=zh (aH4 M);clear hM
   match X with
   | none=>
     obtain ⟨rfl,rfl⟩:=HNIL.o rfl;go_wp2_with (at_builtin;refine wpList_append_own_none rfl _ _ 108 rfl w.heap.size 214 i0 6 Tryz.underlying108 hi (qS A m cap') m (dO ((ss.take k).flatMap spR)) rfl HOW.o rfl ?_)
     refine ⟨⟨A,m,cap',k+1,by omega,rfl,by go_num,?_,HB4.o⟩,by simp [intOf];omega⟩;rw [HT.o,HSP.o,xE HX.o.1,List.append_nil];exact HO3.o
   | some ad=>
     have HNEWS:=zh (show ∀ j u,(dO M)[j]?=some u->w3.cell? (ad.add j)=some u from by
      by_cases hq:q=0
      .have e:M=[]:=xE (by rw [HX.o.1];exact hq);rw [e];intro j u hj;simp [dO] at hj
      .obtain ⟨b',off',he⟩:=HX.o.some hq;injection he with he
       subst he
       exact aLs HX.o)
     go_wp2_with (at_builtin;refine wpList_append_own _ rfl _ _ 108 rfl w.heap.size 214 i0 (.agg #[qI 0,qI 0,qI 0,.bool false,.bool false,.bool false]) 6 32 Tryz.underlying108 hi hz0 hz1 hz2 rfl (by decide) (qS A m cap') m (dO ((ss.take k).flatMap spR)) rfl HOW.o ad q qc (dO M) rfl HLEN.o HNEWS.o HONE.o (by have:=HMX.o;have:=HL3.o;unfold maxLen;omega) (by have:=HMX.o;have:=HL3.o;omega) HSZ.o ?_;intro v' w4 hown4 hgr4 _;have HP:=zh (xA hown4 hgr4);clear hown4 hgr4;obtain ⟨A2,cap2,he⟩:=mT HP.o.1;subst he)
     refine ⟨⟨A2,m+q,cap2,k+1,by omega,rfl,by go_num,?_,aG HB4.o (jD HP.o.2) (fun j hj=>HGE.o j hj) HSZ.o⟩,by simp [intOf];omega⟩;rw [HT.o,HSP.o];refine ⟨?_,fun y hy=>?_⟩
     .rw [xI,HML.o,HX.o.1,aKr];exact HP.o.1
     .rcases List.mem_append.1 hy with hy|hy
      .exact HO3.o.2 y hy
      .exact HWF.o y hy
  .have HE:=zh (show k=n by omega);have HF:=zh (xA hO hB);clear hO hB;go_wp2;go_ret;have h1:=HF.o.1;rw [xG (by rw [HN.o,HE.o];exact aN)] at h1;exact ⟨A,m,cap',rfl,(eZ h1).1.symm,h1,HF.o.2⟩
