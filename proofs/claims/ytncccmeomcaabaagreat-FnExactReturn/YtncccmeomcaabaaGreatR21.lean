import Derived.Test.YtncccmeomcaabaaGreatR19
import Derived.Test.YtncccmeomcaabaaGreatR20
set_option linter.all false
set_option maxHeartbeats 8000000
namespace Go.Proofs.YtncccmeomcaabaaGreat
open Go.RowKit Classical
open Go.Proofs.Tryz
set_option maxRecDepth 100000
theorem wV (a:qO)(n cap:Nat)(ms:List Md)(s c k d:Int)(w:qw)(h:MSD w a n cap ms):
 qC 153 #[qS a n cap,.agg (qW s c k d)] w (LkM w (aE ms) s c k d):=by
 have K0:=aMu w s c k d;have hl:=h.s.1;have hpl:(aE ms).length=n:=by rw [bQ,hl]
 have HH:=zh h;have HSND:=zh (fun (W:qw) (hb:qY w W)=>vG a n cap ms s c k d W (h.bw hb));obtain ⟨V,hV⟩:=eqx (dS (aE ms) s c k d);rw [<- hV] at HSND;have HV:=zh hV;have HK:=zh K0;clear h K0 hV;go_enter func153,ntmps153
 go_wp2_with fail
 refine (HSND.o _ HK.o.be).mono ?_;rintro e w1 ⟨rfl,hb1⟩;have S1:=HK.o.bw hb1;clear hb1 HK;by_cases hV0:V=0
 .have hs4:=HV.o;rw [hV0] at hs4;obtain ⟨hcf,h4,hvl⟩:=rJ hs4.symm;obtain ⟨hs0,hs1,hc0,hc1,_⟩:=of_decide_eq_true hcf;have HS4:=zh hs4.symm;have HVL:=zh hvl;have HCF:=zh hcf;rw [hpl] at h4;subst hV0;have HTA:=zh (uO a n cap ms w1 (HH.o.bw S1.be) hvl h4);have HS1:=zh S1;clear hs4 hvl hcf S1;go_wp2_with fail
  refine HTA.o.mono ?_;rintro e w2 ⟨hb2,H2⟩;have S2:=HS1.o.bw hb2;have hs1w:=HS1.o.be.size;rcases H2 with ⟨hno,v,rfl⟩|⟨hyes,f,rfl,TF,hfe⟩
  .have HP:=zh (aNp (d:=d) (k:=k) (w:=c) (s:=s) HS4.o hno);have HS:=zh S2;obtain ⟨p0,p1,p2,p3,p4,p5⟩:=S2.k1.z6;have y0:=S2.k1.frozen;clear S2 hno hb2 HTA HS1;go_wp2;exact kD HS.o HP.o (by decide) _ rfl rfl
  .have HI:=zh hyes;have HFE:=zh hfe;obtain ⟨gt,hgt0⟩:=eqx (w1.heap.size);rw [<- hgt0] at TF hs1w ⊢;have HTF0:=zh TF;have HS2:=zh S2;obtain ⟨c0,c1,c2,c3⟩:=S2.k0.z4;clear hyes hfe TF S2 hb2 HTA HS1 hgt0;by_cases hsz:s=0
   focus
    subst hsz;have HN6:Zh (¬ ((0:Int)<0/\¬ jT (aE ms) c)):=fun e=>absurd e.1 (by omega);go_wp2_with fail
    go_quiet (fail)
    have HS:Zh (Kin w (w2.drewN nq) 0 c k d):=zh ⟨iK HS2.o.be nq,HS2.o.k0,HS2.o.k1⟩;have HTF:Zh (Tf (w2.drewN nq) gt gt n f):=zh ⟨HTF0.o.head,HTF0.o.rows,HTF0.o.apart⟩;clear HS2 HTF0 c0 c1 c2 c3;generalize w2.drewN nq=w3 at *;have HLA:=zh (tA a n cap ms 0 c k d w3 (HH.o.bw HS.o.be) h4 HCF.o HVL.o);obtain ⟨c0,c1,c2,c3⟩:=HS.o.k0.z4;go_wp2_with fail
    refine HLA.o.mono ?_;rintro e w4 ⟨hb4,a0,d0,xs,a2,d2,rfl,LO⟩;have S4:=HS.o.bw hb4;have TF4:=HTF.o.bw hb4;obtain ⟨L,hL⟩:=eqx (lay (aE ms) 0 c k)
   rotate_left
   focus
    have hsn:(s !=0)=true:=by simp [hsz]
    have HGB:=zh (fun (W:qw) (hb:qY w W)=>oI a n cap ms W (HH.o.bw hb) HVL.o h4);go_wp2_with fail
    go_region_law (first
     | (go_simp;go_at_call 187;refine (HGB.o _ (by first|exact HS2.o.be|exact HS2.o.drew.be)).mono ?_;rintro e wa ⟨R,rfl,hG,hba⟩;have HSA:=zh (show Kin w wa s c k d from (by first|exact HS2.o.bw hba|exact HS2.o.drew.bw hba));have HTB:=zh (show Tf wa gt gt n f from (by first|exact HTF0.o.bw hba|exact Tf.bw (w:=w2.drew) ⟨HTF0.o.head,HTF0.o.rows,HTF0.o.apart⟩ hba));have e1:wa.cell? (qR w.heap.size 1)=some (qI c):=HSA.o.k0.cell 1;have HG:=zh hG;clear hba hG))
    all_goals
     have HS:=HSA;have HTF:=HTB;clear HS2 HTF0 c0 c1 c2 c3 HSA HTB e1 HGB;generalize wa=w3 at *;by_cases h6:c<(R:Int)
     .have HP:=zh (aNo (d:=d) (k:=k) HS4.o HI.o ⟨by omega,(aF9 HG.o c hc0).1 h6⟩);have S3:=HS.o;obtain ⟨p0,p1,p2,p3,p4,p5⟩:=S3.k1.z6;have y0:=S3.k1.frozen;clear S3;go_wp2;exact kD HS.o HP.o (by decide) _ rfl rfl
     have HN6:Zh (¬ (0<s/\¬ jT (aE ms) c)):=fun e=>h6 ((aF9 HG.o c hc0).2 e.2);have h6':¬ c<(R:Int):=h6;have HLA:=zh (tA a n cap ms s c k d w3 (HH.o.bw HS.o.be) h4 HCF.o HVL.o);obtain ⟨c0,c1,c2,c3⟩:=HS.o.k0.z4;go_wp2_with fail
     refine HLA.o.mono ?_;rintro e w4 ⟨hb4,a0,d0,xs,a2,d2,rfl,LO⟩;have S4:=HS.o.bw hb4;have TF4:=HTF.o.bw hb4;obtain ⟨L,hL⟩:=eqx (lay (aE ms) s c k)
   all_goals
    rw [<- hL] at LO ⊢;have HLL:=zh hL;have al:qY w4 (w4.alloc (.cells (qL L a0 xs.length d0 a2 L.slots.length d2 none 0 0) 71)):=bal;have kL:=Blk.new w4 (qL L a0 xs.length d0 a2 L.slots.length d2 none 0 0) 71;have S5:=S4.bw al;have TF5:=TF4.bw al;have hs34:=hb4.size;have hs3:=HS.o.k1.lt;have hgt:=HTF.o.lt.1;have LO5:LayO (w4.alloc (.cells (qL L a0 xs.length d0 a2 L.slots.length d2 none 0 0) 71)) w3.heap.size ⟨L.places,L.stack,L.slots,L.flash,L.ram,[]⟩ a0 d0 xs a2 d2 none 0 []:=⟨LO.p.bw al,LO.ps,LO.s.bw al,LO.t.bw al,LO.tt,LO.sp⟩;have alM:qY w4 (w4.alloc (.cells (qL L a0 xs.length d0 a2 L.slots.length d2 (qP gt) n n) 71)):=bal;have kM:=Blk.new w4 (qL L a0 xs.length d0 a2 L.slots.length d2 (qP gt) n n) 71;have S6:=S4.bw alM;have TF6:=TF4.bw alM;have LO6:LayO (w4.alloc (.cells (qL L a0 xs.length d0 a2 L.slots.length d2 (qP gt) n n) 71)) w3.heap.size ⟨L.places,L.stack,L.slots,L.flash,L.ram,[]⟩ a0 d0 xs a2 d2 none 0 []:=⟨LO.p.bw alM,LO.ps,LO.s.bw alM,LO.t.bw alM,LO.tt,LO.sp⟩;obtain ⟨l0,l1,l2,l3,l4,l5⟩:=kL.z6;have n5:=kL.frozen 5;have HKL:=zh kM;obtain ⟨m0,m1,m2,m3,m4,m5⟩:=kM.z6;have HS5:=zh (xA S5 (xA LO6 (xA TF6 S6)));clear hb4 S4 TF4 LO al kL hL HS HTF HLA c0 c1 c2 c3 alM kM TF5 LO5;unfold mF;by_cases h7:16384<L.flash
    .have HP:=zh (aNn (d:=d) HS4.o HI.o HN6.o (by rw [<- HLL.o];exact h7));obtain ⟨p0,p1,p2,p3,p4,p5⟩:=S5.k1.z6;have y0:=S5.k1.frozen;clear S5 S6 LO6 TF6;go_wp2;exact kD HS5.o.1 HP.o (by decide) _ rfl rfl
    .have h7':¬ 16384<L.flash:=h7;by_cases h8:16384<L.ram
     .have HP:=zh (aNm (d:=d) HS4.o HI.o HN6.o (by rw [<- HLL.o];exact h7) (by rw [<- HLL.o];exact h8));obtain ⟨p0,p1,p2,p3,p4,p5⟩:=S5.k1.z6;have y0:=S5.k1.frozen;clear S5 S6 LO6 TF6;go_wp2;exact kD HS5.o.1 HP.o (by decide) _ rfl rfl
     .have HP:=zh (aNr (d:=d) HS4.o HI.o HN6.o (by rw [<- HLL.o];exact h7) (by rw [<- HLL.o];exact h8));obtain ⟨p0,p1,p2,p3,p4,p5⟩:=S6.k1.z6;have y0:=S6.k1.frozen;clear S5 S6 LO6 TF6;go_wp2;refine wQ HS5.o.2.2.2.k1 _ _ _ _ _ _ 0 _ _ rfl rfl ?_;obtain ⟨S5,LO5,TF5,S6⟩:=HS5.o;have t:=cD (w4.alloc (.cells (qL L a0 xs.length d0 a2 L.slots.length d2 (qP gt) n n) 71)) (w.heap.size+1) (qS a0 xs.length d0) (qI L.stack) (qS a2 L.slots.length d2) (qI L.flash) (qI L.ram) (qS (qP gt) n n);have OT:=TF5.otg (c:=n) aN (by unfold maxLen;omega) rfl
      have key:∀ (base sz nn:Nat) (ty:TypeId) (v:Value) (ys:List Value),(w4.alloc (.cells (qL L a0 xs.length d0 a2 L.slots.length d2 (qP gt) n n) 71)).ownsRow base ty sz v nn ys->ty≠71->∀ j,v.ownBlock=some j->¬ (fun j=>j=w.heap.size+1) j:=fun base sz nn ty v ys ho hne j hj e=>by
       have e':j=w.heap.size+1:=e;subst e';exact aM ho hj S6.k1 hne
      refine ⟨aG S6.be (cD _ _ _ _ _ _ _ _) (fun j hj=>by have e:j=w.heap.size+1:=hj;omega) S6.be.size,a0,d0,xs,a2,d2,some (qR gt 0),n,(List.range n).map f,?_,?_⟩
      .unfold lkL mF;rw [if_pos HP.o,HP.o,<- HLL.o];simp
      .unfold lkL;rw [if_pos HP.o,<- HLL.o];exact ⟨(LO5.p.kept t (key _ _ _ _ _ _ LO5.p.head (by decide)) (fun x hx=>key _ _ _ _ _ _ (LO5.p.rows x hx) (by decide))).mono (by omega) (by omega),LO5.ps,(LO5.s.kept t (key _ _ _ _ _ _ LO5.s (by decide))).mono (by omega),(OT.kept t (key _ _ _ _ _ _ OT.head (by decide)) (fun x hx=>key _ _ _ _ _ _ (OT.rows x hx) (by decide))).mono (by omega) (by omega),by rw [HLL.o];unfold lay;rw [hpl,List.map_map];exact List.map_congr_left (fun i hi=>HFE.o i (by simpa using hi)),LO5.sp⟩
 .have hV0':(V !=0)=true:=by simp [hV0]
  have HP:=zh (aNq (ps:=aE ms) HV.o.symm hV0);have HS:=zh S1;obtain ⟨p0,p1,p2,p3,p4,p5⟩:=S1.k1.z6;have y0:=S1.k1.frozen;clear S1;go_wp2;exact kD HS.o HP.o hV0 _ rfl rfl
theorem aAm (a:qO)(n cap:Nat)(ms:List Md)(L:Lay)(a0:qO)(c0:Nat)(xs:List PB)(a2:qO)(c2:Nat)(a5:qO)(c5:Nat)(ts:List TB)(w:qw)(h:MSD w a n cap ms)(hL:LyT w L a0 c0 xs a2 c2 a5 c5 ts):
 qC 216 #[qS a n cap,.agg (qJ L a0 xs c0 a2 c2 a5 ts c5)] w fun e w'=>e=.returned (.bool (decide (Lok (aE ms) L)))/\qY w w':=by
 obtain ⟨r,hr⟩:=eqx (decide (Lok (aE ms) L));rw [<- hr];replace hr:r=true ↔ Lok (aE ms) L:=by rw [hr];simp
 unfold Lok at hr;have HLB:=zh (qQ (aE ms) (L.slots.length:Int) (cfW L) (cfK L) 0);have HLV:=zh (aF5 (aE ms) (L.slots.length:Int) (cfW L) (cfK L) 0)
 have HIM:=zh (fun (W:qw) (hb:qY w W)=>by
  have:=wV a n cap ms (L.slots.length:Int) (cfW L) (cfK L) 0 W (h.bw hb);unfold LkM mF at this
  exact this)
 generalize lkL (aE ms) (L.slots.length:Int) (cfW L) (cfK L) 0=LY at *;generalize lkc (aE ms) (L.slots.length:Int) (cfW L) (cfK L) 0=C at *;have HR:=zh hr;have HCF:=zh (fun (W:qw) (hb:qY w W)=>aA7 L a0 c0 xs a2 c2 a5 c5 ts W (hL.bw hb));have B0:qY w (w.alloc (.cells (qJ L a0 xs c0 a2 c2 a5 ts c5) 71)):=bal;have k0:=Blk.new w (qJ L a0 xs c0 a2 c2 a5 ts c5) 71;have HL:=zh hL;clear h hL hr;go_enter func216,ntmps216
 go_wp2_with fail
 refine (HCF.o _ B0).mono ?_;rintro e w1 ⟨rfl,hb1⟩;have B1:=B0.trans (hb1.mono B0.size);have k1:=k0.bw hb1;clear hb1 B0 k0;go_wp2_with fail
 refine (HIM.o _ B1).mono ?_;rintro e w2 ⟨hb2,b0,d0,ys,b2,d2,b5,d5,us,rfl,O2⟩;have hA:qY w2 (w2.alloc (.cells (qL LY b0 ys.length d0 b2 LY.slots.length d2 b5 us.length d5) 71)):=bal;have kt:=Blk.new w2 (qL LY b0 ys.length d0 b2 LY.slots.length d2 b5 us.length d5) 71;have B2:=B1.trans (hb2.mono B1.size);have B3:=B2.trans (hA.mono B2.size);have k3:=(k1.bw hb2).bw hA;have O3:=O2.below' hA;have HSM:=zh (rN LY b0 d0 ys b2 d2 b5 d5 us L a0 c0 xs a2 c2 a5 c5 ts _ (O3.lyt HLB.o.r HLV.o) (HL.o.bw B3));have HB3:=zh B3;obtain ⟨p0,p1,p2,p3,p4,p5⟩:=k3.ly6;obtain ⟨q0,q1,q2,q3,q4,q5⟩:=kt.ly6;clear hb2 O2 O3 hA B1 B2 B3 k1 k3 kt;by_cases hC:C=0
 .have g:(C==0)=true:=by simpa using hC
  have HV:=zh (show decide (LY=L)=r by rw [xJ,HR.o];simp [hC]);rw [HV.o] at HSM;clear hC HR;go_wp2_with fail
  refine HSM.o.mono ?_;rintro e w4 ⟨rfl,hb4⟩;have HB4:=zh (HB3.o.trans (hb4.mono HB3.o.size));clear hb4;cases r
  all_goals
   go_wp2;go_ret;exact ⟨rfl,HB4.o⟩
 .have g:(C==0)=false:=by simpa using hC
  have HV:=zh (show r=false by cases r;rfl;exact absurd (HR.o.1 rfl).1 hC);clear hC HR;go_wp2;go_ret;exact ⟨aA HV.o.symm,HB3.o⟩
theorem aPt {S F:Value->World->Prop}{G:Prop}(main:(∀ v W,F v W->S v W)->G)(pf:∀ v W,F v W->S v W):G:=main pf
structure Pc (w0 w:qw)(cm cp:Array Value)(g n base:Nat)(zs:qi)(W:qw):Prop where
 be:qY w0 W
 km:Blk W w.heap.size cm 138
 kp:Blk W (w.heap.size+1) cp 171
 o:OB W base (.slice (some (qR g 0)) n n) zs
 t:Turn (fun j=>j=g) w W
section
variable {w0 w:qw}{cm cp:Array Value}{g n base:Nat}{zs:qi}{W W':qw}
theorem Pc.bw (h:Pc w0 w cm cp g n base zs W)(hb:qY W W'):Pc w0 w cm cp g n base zs W':=⟨h.be.trans (hb.mono h.be.size),h.km.bw hb,h.kp.bw hb,h.o.bw hb,h.t.trans (aJ hb)⟩
theorem Pc.drew (h:Pc w0 w cm cp g n base zs W):Pc w0 w cm cp g n base zs W.drew:=h.bw brf.drew
theorem Pc.set (h:Pc w0 w cm cp g n base zs W){zs':qi}(hg:w0.heap.size<=g)(O:OB W' base (.slice (some (qR g 0)) n n) zs')(T:fF g W W'):Pc w0 w cm cp g n base zs' W':=by
 obtain ⟨c1,k1⟩:=gX h.o;exact ⟨cW h.be T hg,bT T h.km (fun e=>absurd (aI (show Blk W g cm 138 from e ▸ h.km) k1) (by decide)),bT T h.kp (fun e=>absurd (aI (show Blk W g cp 171 from e ▸ h.kp) k1) (by decide)),O,h.t.trans (sB T)⟩
end
theorem aHd (zs:qi)(k:Nat)(ws:qi):bL zs k ws 0=zs:=rfl
theorem aB5 (g F:Nat)(nm:ByteArray)(ta:qO)(tn tc:Nat)(tz:qi)(ba:qO)(bn bc:Nat)(bl:List Bk)(da:qO)(dn dc:Nat)(bss:Int)(ra:qO)(rn rc:Nat)(ia:qO)(im ic:Nat)(ea:qO)(en ec:Nat)(P:PMod)(kt:Nat)(xa:qO)(xb:qi)(xc:Nat)(xd xz:Int)(fz:qi)(base:Nat)(w w0:qw)(hT:IS w0 ta tn tc tz)(hB:BKS w0 ba bn bc bl)(hP1:P.tz=tz)(hP2:P.bl=bl.map (fun B=>B.2.2.2))(hx:IS w0 xa xb.length xc xb)(hb:qY w0 w)(hg:w0.heap.size<=g)(ho:OB w base (.slice (some (qR g 0)) F F) fz)(hF:F<=16384)(hbn4:bn<=4)
 (ht:kt+4*tn<=F) (hxb:xb.length=bn) (hbk:∀ j,j<bn->0<=xb.getD j 0/\xb.getD j 0+4*((bl.getD j zB).2.1:Int)<=(F:Int)):
 qC 217 #[.slice (some (qR g 0)) F F,.agg (qM nm ta tn tc ba bn bc da dn dc bss ra rn rc ia im ic ea en ec),.agg #[.int .i64 (kt:Int),.slice xa xb.length xc,.int .i64 xd,.int .i64 xz]] w fun e w'=>e=.returned (.tuple #[])/\OB w' base (.slice (some (qR g 0)) F F) (cM fz P ⟨(kt:Int),xb,xd,xz⟩ P.bl.length)/\Turn (fun j=>j=g) w w':=by
 have hbl:bl.length=bn:=hB.1;have htl:tz.length=tn:=hT.1;have HPL:=zh (show P.bl.length=bn by rw [hP2,xH];exact hbl);have HP0:=zh (show cM fz P ⟨(kt:Int),xb,xd,xz⟩ 0=bL fz kt tz tn by show bL fz ((kt:Int)).toNat P.tz P.tz.length=_;rw [hP1,xY,htl])
 have HPS:=zh (show ∀ j,j<bn->cM fz P ⟨(kt:Int),xb,xd,xz⟩ (j+1)=bL (cM fz P ⟨(kt:Int),xb,xd,xz⟩ j) (xb.getD j 0).toNat (bl.getD j zB).2.2.2 (bl.getD j zB).2.1 from fun j hj=>by
  have e:P.bl.getD j []=(bl.getD j zB).2.2.2:=by rw [hP2,fC _ _ _ zB _]
  show bL _ (xb.getD j 0).toNat (P.bl.getD j []) (P.bl.getD j []).length=_
  rw [e,(hB.2.2.2.1 j hj).1])
 have HPW:=zh (fun (cm cp:Array Value) (zs:qi) (k:Nat) (a:qO) (wn wc:Nat) (ws:qi) (X:qw) (hw:IS w0 a wn wc ws) (S:Pc w0 w cm cp g F base zs X) (hk:k+4*wn<=F) (hlt:k<F)=>(iY g F F k (F-k) (F-k) a wn wc ws zs base w0 X hw S.be hg S.o hF hk (by omega) aN (by omega)).mono (fun e w' he=>show e=.returned (.tuple #[])/\Pc w0 w cm cp g F base (bL zs k ws wn) w' from ⟨he.1,S.set hg he.2.1 he.2.2⟩))
 have HPW0:=zh (fun (cm cp:Array Value) (zs:qi) (k:Nat) (a:qO) (wn wc:Nat) (ws:qi) (X:qw) (hw:IS w0 a wn wc ws) (S:Pc w0 w cm cp g F base zs X) (hk:k+4*wn<=F) (hlt:¬ k<F)=>(iY g F F 0 0 0 a wn wc ws zs base w0 X hw S.be hg S.o hF (by omega) (by omega) aN (by omega)).mono (fun e w' he=>show e=.returned (.tuple #[])/\Pc w0 w cm cp g F base (bL zs k ws wn) w' from ⟨he.1,by
  have e0:wn=0:=by omega
  have:=S.set hg he.2.1 he.2.2;rw [e0,aHd] at this ⊢
  exact this⟩))
 have HB:=zh hB;have HX:=zh hx;have HT:=zh hT;have HBK:=zh hbk
 have S0:Pc w0 w (qM nm ta tn tc ba bn bc da dn dc bss ra rn rc ia im ic ea en ec) #[.int .i64 (kt:Int),.slice xa xb.length xc,.int .i64 xd,.int .i64 xz] g F base fz ((w.alloc (.cells (qM nm ta tn tc ba bn bc da dn dc bss ra rn rc ia im ic ea en ec) 138)).alloc (.cells #[.int .i64 (kt:Int),.slice xa xb.length xc,.int .i64 xd,.int .i64 xz] 171)):=by
  have bb:qY w ((w.alloc (.cells (qM nm ta tn tc ba bn bc da dn dc bss ra rn rc ia im ic ea en ec) 138)).alloc (.cells #[.int .i64 (kt:Int),.slice xa xb.length xc,.int .i64 xd,.int .i64 xz] 171)):=bal.alloc (by simp) _;exact ⟨hb.trans (bb.mono hb.size),(Blk.new _ _ _).alloc _,by have:=Blk.new (w.alloc (.cells (qM nm ta tn tc ba bn bc da dn dc bss ra rn rc ia im ic ea en ec) 138)) #[.int .i64 (kt:Int),.slice xa xb.length xc,.int .i64 xd,.int .i64 xz] 171;simpa using this,ho.bw bb,aJ bb⟩
 have HS0:=zh S0;have HXB:=zh hxb;have HBL:=zh hbl;clear S0 hB hx hT hbk ho hb hP1 hP2 htl hxb hbl;go_enter func217,ntmps217
 go_wp2_with fail
 generalize ((w.alloc (.cells (qM nm ta tn tc ba bn bc da dn dc bss ra rn rc ia im ic ea en ec) 138)).alloc (.cells #[.int .i64 (kt:Int),.slice xa xb.length xc,.int .i64 xd,.int .i64 xz] 171))=W0 at *;generalize hcm:((qM nm ta tn tc ba bn bc da dn dc bss ra rn rc ia im ic ea en ec):Array Value)=cm at HS0;generalize hcp:(#[.int .i64 (kt:Int),.slice xa xb.length xc,.int .i64 xd,.int .i64 xz]:Array Value)=cp at HS0;have HCM:=zh (xA hcm hcp);clear hcm hcp
 have HCL:=zh (fun (zs:qi) (X:qw) (S:Pc w0 w cm cp g F base zs X)=>show X.cell? (qR w.heap.size 1)=some (.slice ta tn tc)/\X.cell? (qR w.heap.size 2)=some (.slice ba bn bc)/\X.cell? (qR (w.heap.size+1) 0)=some (.int .i64 (kt:Int))/\X.cell? (qR (w.heap.size+1) 1)=some (.slice xa xb.length xc) from by
  have h1:=S.km;have h2:=S.kp;rw [<- HCM.o.1] at h1;rw [<- HCM.o.2] at h2
  exact ⟨h1.cell 1,h1.cell 2,h2.cell 0,h2.cell 1⟩)
 obtain ⟨x1,x2,y0,y1⟩:=HCL.o _ _ HS0.o;have k0':(0:Int)<=(kt:Int):=by omega
 have k1':(kt:Int)<=(F:Int):=by omega
 apply aPt (F:=fun v W=>Pc w0 w cm cp g F base (cM fz P ⟨(kt:Int),xb,xd,xz⟩ 0) W)
 .intro REST0;have REST:=zh REST0;clear REST0;rw [HP0.o] at REST;by_cases hkF:kt<F
  .have hkF':(kt:Int)<(F:Int):=by omega
   have hkn:¬ (F=kt):=by omega
   go_region_held3 (fun w'=>w'.cell? (qR w.heap.size 1)=some (.slice ta tn tc)/\w'.cell? (qR (w.heap.size+1) 0)=some (.int .i64 (kt:Int))) (go_keep)
    (first
      | (go_at_call 219;first
          | with_reducible refine (HPW.o cm cp fz kt ta tn tc tz _ HT.o HS0.o ht hkF).mono ?_
          | with_reducible refine (HPW.o cm cp fz kt ta tn tc tz _ HT.o HS0.o.drew ht hkF).mono ?_
         rintro e w2 ⟨rfl,hS2⟩;have HS2:=zh hS2;clear hS2
         obtain ⟨z1,z2,z3,z4⟩:=HCL.o _ _ HS2.o))
   generalize Value.slice (some (qR g kt)) (F-kt) (F-kt)=v11;exact REST.o v11 w2 HS2.o
  .obtain rfl:F=kt:=by omega
   go_region_held3 (fun w'=>w'.cell? (qR w.heap.size 1)=some (.slice ta tn tc)/\w'.cell? (qR (w.heap.size+1) 0)=some (.int .i64 (F:Int))) (go_keep)
    (first
      | (go_at_call 219;first
          | with_reducible refine (HPW0.o cm cp fz F ta tn tc tz _ HT.o HS0.o ht hkF).mono ?_
          | with_reducible refine (HPW0.o cm cp fz F ta tn tc tz _ HT.o HS0.o.drew ht hkF).mono ?_
         rintro e w2 ⟨rfl,hS2⟩;have HS2:=zh hS2;clear hS2
         obtain ⟨z1,z2,z3,z4⟩:=HCL.o _ _ HS2.o))
   exact REST.o _ w2 HS2.o
 .rintro v11 W2 hS2;show Exit.then _ _ _ _ _
  obtain ⟨z1,z2,z3,z4⟩:=HCL.o _ _ hS2;have HS2:=zh hS2;clear hS2 x1 x2 y0 y1 HS0 k0' k1';go_wp2;clear z1 z2 z3 z4;go_loopw [18] (fun i wr=>∃ j:Nat,j<=bn/\i=.int .i64 j/\Pc w0 w cm cp g F base (cM fz P ⟨(kt:Int),xb,xd,xz⟩ j) wr) (qf bn)
  .exact ⟨0,xC _,rfl,HS2.o⟩
  .clear HS2;obtain ⟨j,hj,rfl,hJ⟩:=hrel;generalize wr=wj at *;have HJ:=zh hJ;obtain ⟨z1,z2,z3,z4⟩:=HCL.o _ _ hJ;by_cases hjb:j<bn
   .have hjb':(j:Int)<(bn:Int):=by omega
    have hjx':(j:Int)<(xb.length:Int):=by have:=HXB.o;omega
    obtain ⟨bb,bo,rfl,hbc⟩:=HB.o.2.2.1 (show bn≠0 by omega);obtain ⟨qb,qo,rfl,hqc⟩:=HX.o.2.2.2.1 (show xb.length≠0 by have:=HXB.o;omega);have s1:=aB hJ.be (hqc j (by have:=HXB.o;omega));have s2:=aB hJ.be (hbc j hjb);obtain ⟨kb,hkb⟩:∃ kb:Nat,xb.getD j 0=(kb:Int):=⟨(xb.getD j 0).toNat,by have:=(HBK.o j hjb).1;omega⟩;have HK2:=zh (show kb+4*(bl.getD j zB).2.1<=F by have:=(HBK.o j hjb).2;rw [hkb] at this;omega);have HIB:=zh (HB.o.2.2.2.1 j hjb);have HPJ:=HPS.o j hjb;rw [hkb,xY] at HPJ;rw [hkb] at s1;have HPJ:=zh HPJ;have hk2:=HK2.o;generalize hPJ:cM fz P ⟨(kt:Int),xb,xd,xz⟩ (j+1)=ZJ at HPJ;have HZJ:=zh hPJ;clear hJ hbc hqc hkb hPJ;generalize (bl.getD j zB).2.2.2=kw at *;generalize (bl.getD j zB).1=k1 at *;generalize (bl.getD j zB).2.1=k2 at *;generalize (bl.getD j zB).2.2.1=k3 at *;have b0':(0:Int)<=(kb:Int):=by omega
    have b1':(kb:Int)<=(F:Int):=by omega
    by_cases hkF:kb<F
    .have hkF':(kb:Int)<(F:Int):=by omega
     have hkn:¬ (F=kb):=by omega
     have HC:=zh (HPW.o cm cp _ kb k1 k2 k3 kw wj HIB.o HJ.o HK2.o hkF);go_wp2_with fail
     refine HC.o.mono ?_;rintro e w3 ⟨rfl,hS3⟩;have HS3:=zh (show Pc w0 w cm cp g F base ZJ w3 by rw [HPJ.o];exact hS3);clear hS3 s1 s2 z1 z2 z3 z4;go_wp2
     go_roundw
     .exact ⟨j+1,by omega,by go_num,by rw [HZJ.o];exact HS3.o⟩
     .simp [qf,intOf];omega
    .have hkF':¬ (kb:Int)<(F:Int):=by omega
     have HC:=zh (HPW0.o cm cp _ kb k1 k2 k3 kw wj HIB.o HJ.o HK2.o hkF);obtain rfl:F=kb:=by omega
     go_wp2_with fail
     refine HC.o.mono ?_;rintro e w3 ⟨rfl,hS3⟩;have HS3:=zh (show Pc w0 w cm cp g F base ZJ w3 by rw [HPJ.o];exact hS3);clear hS3 s1 s2 z1 z2 z3 z4;go_wp2
     go_roundw
     .exact ⟨j+1,by omega,by go_num,by rw [HZJ.o];exact HS3.o⟩
     .simp [qf,intOf];omega
   .have e:Zh (j=bn):=by show j=bn;omega
    clear hJ;go_wp2
    go_end0
    exact ⟨rfl,by rw [HPL.o,<- e.o];exact HJ.o.o,HJ.o.t⟩
structure Pd (w0 w:qw)(cm:Array Value)(g n base:Nat)(zs:qi)(W:qw):Prop where
 be:qY w0 W
 km:Blk W w.heap.size cm 138
 o:OB W base (qS (qP g) n n) zs
 t:Turn (fun j=>j=g) w W
section
variable {w0 w:qw}{cm:Array Value}{g n base:Nat}{zs:qi}{W W':qw}
theorem Pd.bw (h:Pd w0 w cm g n base zs W)(hb:qY W W'):Pd w0 w cm g n base zs W':=⟨h.be.trans (hb.mono h.be.size),h.km.bw hb,h.o.bw hb,h.t.trans (aJ hb)⟩
theorem Pd.drew (h:Pd w0 w cm g n base zs W):Pd w0 w cm g n base zs W.drew:=h.bw brf.drew
theorem Pd.set (h:Pd w0 w cm g n base zs W){zs':qi}(hg:w0.heap.size<=g)(O:OB W' base (qS (qP g) n n) zs')(T:fF g W W'):Pd w0 w cm g n base zs' W':=by
 obtain ⟨c1,k1⟩:=gX h.o;exact ⟨cW h.be T hg,bT T h.km (fun e=>absurd (aI (show Blk W g cm 138 from e ▸ h.km) k1) (by decide)),O,h.t.trans (sB T)⟩
end
theorem aOq {W:qw}{base g n A:Nat}{zs:qi}(h:OB W base (qS (qP g) n n) zs)(hA:A<=n):BS W (some (qR g A)) (n-A) (n-A) (zs.drop A):=by
 have hl:=(qN h).2.1;have hm:=(qN h).2.2.2;have hb:=h.bs;refine ⟨by simp;omega,by omega,fun z hz=>h.2 z (List.mem_of_mem_drop hz),fun _=>⟨g,A,rfl,fun i hi=>?_⟩,aN⟩;have h1:=hb.at (A+i) (by omega);rw [Nat.zero_add] at h1;rw [h1];congr 2;simp [xB,List.getElem?_drop]
theorem aB4 (g R f:Nat)(bp:qO)(bl':Nat)(nm:ByteArray)(ta:qO)(tn tc:Nat)(ba:qO)(bn bc:Nat)(da:qO)(dn dc:Nat)(dz:qi)(bss:Int)(ra:qO)(rn rc:Nat)(rrz:qi)(ia:qO)(im ic:Nat)(ea:qO)(en ec:Nat)(rz:qi)(base:Nat)(w w0:qw)(hD:BS w0 da dn dc dz)(hRl:IS w0 ra rn rc rrz)(hb:qY w0 w)(hg:w0.heap.size<=g)(ho:OB w base (qS (qP g) R R) rz)(hR:R<=16384)(hrn:rn<=16)(hfd:f+dn<=R)(hrl:∀ q,q<rn->0<=rrz.getD q 0/\rrz.getD q 0+4<=(dn:Int))
 (hbp:(f<R/\bp=some (qR g f)/\bl'=R-f)\/(f=R/\bp=some (qR g 0)/\bl'=0)):
 qC 218 #[qS bp bl' bl',.agg (qM nm ta tn tc ba bn bc da dn dc bss ra rn rc ia im ic ea en ec),qI (65536+(f:Int))] w fun e w'=>e=.returned (.tuple #[])/\OB w' base (qS (qP g) R R) (iC (ovr rz f dz) f rrz (65536+(f:Int)) rn)/\Turn (fun j=>j=g) w w':=by
 have bb:qY w (w.alloc (.cells (qM nm ta tn tc ba bn bc da dn dc bss ra rn rc ia im ic ea en ec) 138)):=bal;have S0:Pd w0 w (qM nm ta tn tc ba bn bc da dn dc bss ra rn rc ia im ic ea en ec) g R base rz (w.alloc (.cells (qM nm ta tn tc ba bn bc da dn dc bss ra rn rc ia im ic ea en ec) 138)):=⟨hb.trans (bb.mono hb.size),Blk.new _ _ _,ho.bw bb,aJ bb⟩;have HBR:=zh (xA hbp (xA hD (xA hRl hrl)));obtain ⟨w1,hrun,O1,T1⟩:=uB (f:=f) S0.o 3 bp da bl' bl' dn dc (hD.bw S0.be) (by rcases hbp with h|h<;>omega) (by omega) (fun h0=>by rcases hbp with h|h;exact h.2.1;omega);have HS1:=zh (S0.set hg O1 T1);have x3:=S0.km.cell 3;simp only [List.getElem?_toArray,List.getElem?_cons_zero,List.getElem?_cons_succ] at x3;clear O1 T1 S0 bb ho hb hD hRl hrl hbp;obtain ⟨cm,hcm⟩:∃ cm:Array Value,cm=(qM nm ta tn tc ba bn bc da dn dc bss ra rn rc ia im ic ea en ec):=⟨_,rfl⟩;rw [<- hcm] at HS1
 have HCL:=zh (fun (zs:qi) (X:qw) (S:Pd w0 w cm g R base zs X)=>show X.cell? (qR w.heap.size 5)=some (qS ra rn rc) from by
  have h1:=S.km;rw [hcm] at h1
  exact h1.cell 5)
 clear hcm;go_enter func218,ntmps218
 have z5:=HCL.o _ _ HS1.o;go_wp2;clear hrun x3 z5;go_loopw [15] (fun i wr=>∃ q:Nat,q<=rn/\i=qI q/\Pd w0 w cm g R base (iC (ovr rz f dz) f rrz (65536+(f:Int)) q) wr) (qf rn)
 .exact ⟨0,xC _,rfl,HS1.o⟩
 .clear HS1;obtain ⟨q,hq,rfl,hQ⟩:=hrel;generalize wr=wq at *;have HQ:=zh hQ;by_cases hqr:q<rn
  .have hqr':(q:Int)<(rn:Int):=by omega
   obtain ⟨hbp,hD,hRl,hrl⟩:=HBR.o;obtain ⟨rb,ro,rfl,hrc⟩:=hRl.2.2.2.1 (show rn≠0 by omega);obtain ⟨h1,h2⟩:=hrl q hqr;have hfR:f<R:=by omega
   obtain ⟨_,hb1,hb2⟩:f<R/\bp=some ⟨g,f,none⟩/\bl'=R-f:=by rcases hbp with h|h;exact h;omega
   subst hb1 hb2;have s6:=aB hQ.be (hrc q hqr);have HRE:Zh (iC (ovr rz f dz) f rrz (65536+(f:Int)) (q+1)=put (iC (ovr rz f dz) f rrz (65536+(f:Int)) q) (f+(rrz.getD q 0).toNat) (low (((iC (ovr rz f dz) f rrz (65536+(f:Int)) q).drop (f+(rrz.getD q 0).toNat)).take 4)+(65536+(f:Int))) 4):=rfl;clear hrc hQ hD hRl hrl hbp;generalize hRQ1:iC (ovr rz f dz) f rrz (65536+(f:Int)) (q+1)=RQ1 at HRE;have HRQ1:=zh hRQ1;clear hRQ1;generalize iC (ovr rz f dz) f rrz (65536+(f:Int)) q=RQ at *;obtain ⟨x,hx⟩:∃ x:Nat,rrz.getD q 0=(x:Int):=⟨(rrz.getD q 0).toNat,by omega⟩;rw [hx] at s6 HRE h1 h2;rw [xY] at HRE;clear hx;have HLR:=zh (oD ((RQ.drop (f+x)).take 4) (fun z hz=>HQ.o.o.2 z (List.mem_of_mem_drop (List.mem_of_mem_take hz))) (by simp;omega));obtain ⟨lw,hlw⟩:=eqx (low ((RQ.drop (f+x)).take 4));rw [<- hlw] at HLR HRE;obtain ⟨VV,hVV⟩:=eqx (lw+(65536+(f:Int)));rw [<- hVV] at HRE;have hwV:IntKind.i64.wrap (lw+(65536+(f:Int)))=VV:=by rw [hVV,xP,xQ _ (by have:=HLR.o;omega)]
   have HVR:=zh (show -9223372036854775808<=VV/\VV<=9223372036854775807 by have:=HLR.o;omega)
   have HGB:=zh (fun (X:qw) (S:Pd w0 w cm g R base RQ X)=>show qC 234 #[qS (some (qR g (f+x))) (R-f-x) (R-f-x),qI 4] X fun e w'=>e=.returned (qI lw)/\Pd w0 w cm g R base RQ w' from by
    have hbs:=aOq S.o (show f+x<=R by omega);rw [show R-(f+x)=R-f-x by omega] at hbs;have:=aEy g (f+x) (R-f-x) (R-f-x) _ X hbs (by omega);rw [<- hlw] at this
    exact this.mono (fun e w' he=>⟨he.1,S.bw he.2⟩))
   have HPB:=zh (fun (X:qw) (S:Pd w0 w cm g R base RQ X)=>show qC 233 #[qS (some (qR g (f+x))) (R-f-x) (R-f-x),qI 4,qI VV] X fun e w'=>e=.returned (.tuple #[])/\Pd w0 w cm g R base RQ1 w' from
    (lZ g (R-f-x) (R-f-x) (f+x) VV X (sG S.o) (by omega) HVR.o).mono (fun e w' he=>⟨he.1,by
      rw [he.2,HRE.o]
      exact S.set hg (sH S.o (f+x) VV) (iZ g (f+x) VV X)⟩))
   have t0:(0:Int)<=(x:Int):=by omega
   have t1:(x:Int)<=((R-f:Nat):Int):=by omega
   have t2:(x:Int)<((R-f:Nat):Int):=by omega
   have t3:¬ (R-f=x):=by omega
   have t4:x<=R-f:=by omega
   have t5:x<R-f:=by omega
   clear hlw hVV h1 h2;go_wp2_with fail
   go_region_held3 (fun w'=>True) (exact True.intro)
    (first
      | (go_at_call 234;first
          | with_reducible refine (HGB.o _ HQ.o).mono ?_
          | with_reducible refine (HGB.o _ HQ.o.drew).mono ?_
         rintro e w5 ⟨rfl,hS5⟩;have HS5:=zh hS5
         clear hS5)
      | (go_at_call 233;first
          | with_reducible refine (HPB.o _ HS5.o).mono ?_
          | (rw [hwV];with_reducible refine (HPB.o _ HS5.o).mono ?_)
         rintro e w6 ⟨rfl,hS6⟩;have HS6:=zh hS6
         clear hS6))
   clear hwV s6;go_wp2
   go_roundw
   .exact ⟨q+1,by omega,by go_num,by rw [HRQ1.o];exact HS6.o⟩
   .simp [qf,intOf];omega
  .have e:Zh (q=rn):=by show q=rn;omega
   clear hQ;go_wp2
   go_end0
   exact ⟨rfl,by rw [<- e.o];exact HQ.o.o,HQ.o.t⟩
