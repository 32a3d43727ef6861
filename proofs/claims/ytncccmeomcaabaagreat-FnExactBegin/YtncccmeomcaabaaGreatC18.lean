import Derived.Deep.MidRow
import Derived.Test.YtncccmeomcaabaaGreatC15
import Derived.Test.YtncccmeomcaabaaGreatC16
import Derived.Test.YtncccmeomcaabaaGreatC17
set_option linter.all false
set_option maxHeartbeats 64000000
namespace Go.Proofs.YtncccmeomcaabaaGreat
open Go.RowKit Classical
open Go.Proofs.Tryz
set_option maxRecDepth 100000
variable {C C':Cn}{L:Lay}{Ls:List (PMod×Mb)}{M M':Mn}{Y:Lyb}{b m t:Int}{base mid q:Nat}{β:Nat->Nat}
theorem iV {W:qw}{G:Nat}(k1:Blk W G zL 71)(v0 v1 v2 v3 v4 v5:Value)(b:Bool)(Q:Ending->World->Prop)(tmps:Array Value)(h2:tmps[2]?=some (.pointer (qP G)))(h3:tmps[3]?=some (.bool b))(hQ:Q (.returned (.tuple #[.agg #[v0,v1,v2,v3,v4,v5],.bool b])) (st6 W G v0 v1 v2 v3 v4 v5)):
 bodyPost prog f90 Q Exit.ret ⟨tmps,[]⟩ (st6 W G v0 v1 v2 v3 v4 v5):=by
 have k:=jR k1 v0 v1 v2 v3 v4 v5;obtain ⟨t0,t1,t2,t3,t4,t5⟩:=k.z6;refine bodyPost_ret_by (v:=.tuple #[.agg #[v0,v1,v2,v3,v4,v5],.bool b]) ?_ rfl hQ;simp [results,results90,go_sem,h2,h3,t0,t1,t2,t3,t4,t5]
theorem qD (M:Mn)(w:qw)(h:MnD w M):qC 90 #[.agg (qA M)] w (VlP w M):=by
 obtain ⟨U,hU,bU,kU⟩:=nwb w (qA M) 43;obtain ⟨V,hV,bV,kV⟩:=nwb U qz 71;have BV:=bU.trans (bV.mono bU.size);have kU':=kU.bw bV;have hUs:w.heap.size<=U.heap.size:=bU.size;have hUV:U.heap.size<V.heap.size:=kV.lt;obtain ⟨L,hL⟩:=eqx (M.L);have HLB:=zh (show LayB L from by rw [hL];exact rW _ _ _ _ _);have HLV:=zh (show wfi L.stack/\wfi L.flash/\wfi L.ram from by rw [hL];exact aGz _ _ _ _ _)
 have HLK:=zh (show qC 153 #[qS M.ma M.mn M.mc,.agg (qW M.cs M.cw M.ck M.cd)] V (fun e w'=>qY V w'/\∃ a0 c0 xs a2 c2 a5 c5 ts,e=.returned (.tuple #[.agg (qJ L a0 xs c0 a2 c2 a5 ts c5),qI (lkc (aE M.ms) M.cs M.cw M.ck M.cd)])/\LayO w' V.heap.size L a0 c0 xs a2 c2 a5 c5 ts) from by
  have:=zD M.ma M.mn M.mc M.ms M.cs M.cw M.ck M.cd V (h.m.bw BV);unfold LkM mV at this;rw [show lkL (aE M.ms) M.cs M.cw M.ck M.cd=L from hL.symm] at this
  exact this)
 have HLO:=zh (fun (e:lkc (aE M.ms) M.cs M.cw M.ck M.cd=0)=>show Lok (aE M.ms) L from by
  have:=aE3 e;rw [hL];unfold Mn.L lkL;rw [if_pos e]
  exact this)
 have HDV:=zh (h.bw BV);have HU:=zh hU;have HV:=zh hV;have HB:=zh BV;have HEL:=zh hL;have HUS:=zh (xA hUs hUV);have HK:=zh (fun (X:qw) (hX:qY V X)=>xA (kU'.bw hX) (kV.bw hX));have HEN:=zh (fun (X:qw) (hX:qY V X) (v0 v1 v2 v3 v4 v5:Value)=>show qY w (st6 X U.heap.size v0 v1 v2 v3 v4 v5) from aG (BV.trans (hX.mono BV.size)) (cF _ _ _ _ _ _ _ _) (fun j hj=>by have e:j=U.heap.size:=hj;omega) (by have h1:=BV.size;have h2:=hX.size;omega));obtain ⟨m0,m1,m2,m3,m4,m5,m6,m7,m8,m9,m10,m11,m12,m13,m14⟩:=kU'.mc;clear hU hV bU bV kU kU' kV BV h hL hUs hUV;generalize hC:lkc (aE M.ms) M.cs M.cw M.ck M.cd=C at *;have HCE:=zh hC;clear hC;go_enter func90,ntmps90
 go_wp2_with (first|rw [<- HU.o]|rw [<- HV.o])
 refine HLK.o.mono ?_;rintro e X1 ⟨hb1,a0,c0,xs,a2,c2,a5,c5,ts,rfl,O⟩;obtain ⟨W,hW,bW,kW⟩:=nwb X1 (qJ L a0 xs c0 a2 c2 a5 ts c5) 71;have BW:=hb1.trans (bW.mono hb1.size);have HW:=zh hW;have HBW:=zh BW;have OW:=O.below' bW;have HOW:=zh OW;have HLT:=zh (OW.lyt HLB.o.r HLV.o);have HC:=zh (fun (X:qw) (hX:qY W X)=>xA ((HK.o X (BW.trans (hX.mono BW.size))).1) (xA ((HK.o X (BW.trans (hX.mono BW.size))).2) (kW.bw hX)));have HVX:=zh (fun (X:qw) (hX:qY W X)=>BW.trans (hX.mono BW.size));clear m0 m1 m2 m3 m4 m5 m6 m7 m8 m9 m10 m11 m12 m13 m14 HU HV HLK hW bW kW BW OW O hb1 HK;obtain ⟨m0,m1,m2,m3,m4,m5,m6,m7,m8,m9,m10,m11,m12,m13,m14⟩:=(HC.o W brf).1.mc;obtain ⟨l0,l1,l2,l3,l4,l5⟩:=(HC.o W brf).2.2.ly6;by_cases c0':¬ C=0
 .have c0'':(C !=0)=true:=by simp [c0']
  have HN:Zh (¬ MOk M):=fun q=>c0' (by rw [<- HCE.o];exact q.l);clear c0';obtain ⟨r0,r1,r2,r3,r4,r5⟩:=(HC.o W brf).2.1.ly6;have rf:=(HC.o W brf).2.1.frozen;have k1:=(HC.o W brf).2.1;have hEN:=HEN.o W HBW.o;go_wp2_with (rw [<- HW.o])
  exact iV k1 (qS none 0 0) (qI 0) (qS none 0 0) (qI 0) (qI 0) (qS none 0 0) false _ _ rfl rfl (dS (hEN _ _ _ _ _ _) HN.o)
 replace c0':C=0:=xZ.1 c0';have c0'':(C !=0)=false:=by simp [c0']
 have HE0:=zh (show lkc (aE M.ms) M.cs M.cw M.ck M.cd=0 from by rw [HCE.o];exact c0');have HL0:=zh (HLO.o (by rw [<- HCE.o];exact HE0.o));have HX0:=zh c0';clear c0' HLO;obtain ⟨b0,hb0⟩:=fX (vG (aE M.ms) L)
 have HPF:=zh (fun (X:qw) (hX:qY W X)=>(aAw M.ma M.mn M.mc M.ms L a0 c0 xs a2 c2 a5 c5 ts X ((HDV.o.m.bw HBW.o).bw hX) (HLT.o.bw hX) HL0.o).mono (fun e w' he=>show e=.returned (.bool b0)/\qY X w' from by
  obtain ⟨r,h1,h2,h3⟩:=he;have:r=b0:=by rw [xJ,h2,hb0]
  exact ⟨by rw [h1,this],h3⟩))
 have HCO:=zh (fun (X:qw) (hX:qY W X)=>aFv M.pc M.ka M.kn M.kc M.kz X ((HDV.o.k.bw HBW.o).bw hX));obtain ⟨b2,hb2⟩:=fX (mok M.fn M.rn M.on=true/\imF (aE M.ms) L=M.fz/\(M.rn:Int)=L.ram);have HME:=zh (fun (X:qw) (hX:qY W X)=>(aA9 M L a0 c0 xs a2 c2 a5 c5 ts X ((HDV.o.bw HBW.o).bw hX) (HLT.o.bw hX) HL0.o).mono (fun e w' he=>nA he b2 hb2));obtain ⟨b3,hb3⟩:=fX (cW (aE M.ms) L M.cs M.cw M.tn M.rz M.lz);have HSL:=zh (fun (hr:(M.rn:Int)=L.ram) (X:qw) (hX:qY W X)=>(aCi M L a0 c0 xs a2 c2 a5 c5 ts X ((HDV.o.bw HBW.o).bw hX) (HLT.o.bw hX) HEL.o HE0.o hr).mono (fun e w' he=>nA he b3 hb3));obtain ⟨b4,hb4⟩:=fX (vY (aE M.ms) M.cs M.md M.bk M.lz);have HRU:=zh (fun (X:qw) (hX:qY W X)=>(aEj M X ((HDV.o.bw HBW.o).bw hX)).mono (fun e w' he=>nA he b4 hb4));obtain ⟨b5,hb5⟩:=fX (jW (aE M.ms) M.cd M.hz);have HSH:=zh (fun (X:qw) (hX:qY W X)=>(aAk M X ((HDV.o.bw HBW.o).bw hX)).mono (fun e w' he=>nA he b5 hb5));have HIU:=zh (cZ M.tn 1000000000);obtain ⟨t,ht⟩:∃ t:Bool,t=decide (0<=M.tn/\M.tn<=1000000000):=⟨_,rfl⟩;rw [<- ht] at HIU;obtain ⟨b1,hb1⟩:∃ b:Bool,b=cok M.pc M.kn M.kz:=⟨_,rfl⟩;rw [<- hb1] at HCO;have HF0:=zh (fun (e:b0=false)=>show ¬ MOk M from fun q=>by have:=hb0.2 (by rw [HEL.o];exact q.p);rw [e] at this;cases this);have HFt:=zh (fun (e:t=false)=>show ¬ MOk M from fun q=>by rw [e] at ht;exact absurd q.t (of_decide_eq_false ht.symm));have HF1:=zh (fun (e:b1=false)=>show ¬ MOk M from fun q=>by have:=q.c;rw [<- hb1,e] at this;cases this);have HF2:=zh (fun (e:b2=false)=>show ¬ MOk M from fun q=>by have:=hb2.2 ⟨q.b,by rw [HEL.o];exact q.f,by rw [HEL.o];exact q.r⟩;rw [e] at this;cases this);have HF3:=zh (fun (e:b3=false)=>show ¬ MOk M from fun q=>by have:=hb3.2 (by rw [HEL.o];exact q.s);rw [e] at this;cases this);have HF4:=zh (fun (e:b4=false)=>show ¬ MOk M from fun q=>by have:=hb4.2 q.n;rw [e] at this;cases this);have HF5:=zh (fun (e:b5=false)=>show ¬ MOk M from fun q=>by have:=hb5.2 q.h;rw [e] at this;cases this);have HRR:=zh (fun (e:b2=true)=>(hb2.1 e).2.2)
 have HYY:=zh (fun (e0:b0=true) (et:t=true) (e1:b1=true) (e2:b2=true) (e3:b3=true) (e4:b4=true) (e5:b5=true)=>show MOk M from
  ⟨HE0.o,by have:=hb0.1 e0;rw [HEL.o] at this;exact this,by rw [<- hb1,e1],(hb2.1 e2).1,by have:=(hb2.1 e2).2.1;rw [HEL.o] at this;exact this,by have:=(hb2.1 e2).2.2;rw [HEL.o] at this;exact this,by rw [et] at ht;exact of_decide_eq_true ht.symm,by have:=hb3.1 e3;rw [HEL.o] at this;exact this,hb4.1 e4,hb5.1 e5⟩)
 clear hb0 hb1 hb2 hb3 hb4 hb5 ht HDV HCE;go_wp2_with (rw [<- HW.o])
 refine (HPF.o W brf).mono ?_;rintro e Y0 ⟨rfl,hb⟩;have HY0:=zh hb;clear hb HW m0 m1 m2 m3 m4 m5 m6 m7 m8 m9 m10 m11 m12 m13 m14 l0 l1 l2 l3 l4 l5;obtain ⟨m0,m1,m2,m3,m4,m5,m6,m7,m8,m9,m10,m11,m12,m13,m14⟩:=(HC.o Y0 HY0.o).1.mc;obtain ⟨l0,l1,l2,l3,l4,l5⟩:=(HC.o Y0 HY0.o).2.2.ly6;obtain ⟨r0,r1,r2,r3,r4,r5⟩:=(HC.o Y0 HY0.o).2.1.ly6;have rf:=(HC.o Y0 HY0.o).2.1.frozen;cases b0 with
 | false=>
   have HN:=zh (HF0.o (by simp));have k1:=(HC.o Y0 HY0.o).2.1;have hEN:=HEN.o Y0 (HVX.o Y0 HY0.o);go_wp2;exact iV k1 (qS none 0 0) (qI 0) (qS none 0 0) (qI 0) (qI 0) (qS none 0 0) false _ _ rfl rfl (dS (hEN _ _ _ _ _ _) HN.o)
 | true=>
 go_wp2_with fail
 refine (HIU.o _).mono ?_;rintro e Yt ⟨rfl,rfl⟩;cases t with
 | false=>
   have HN:=zh (HFt.o (by simp));have k1:=(HC.o Y0 HY0.o).2.1;have hEN:=HEN.o Y0 (HVX.o Y0 HY0.o);go_wp2;exact iV k1 (qS none 0 0) (qI 0) (qS none 0 0) (qI 0) (qI 0) (qS none 0 0) false _ _ rfl rfl (dS (hEN _ _ _ _ _ _) HN.o)
 | true=>
 go_wp2_with fail
 refine (HCO.o _ HY0.o).mono ?_;rintro e Y1 ⟨rfl,hb⟩;have HY1:=zh (HY0.o.trans (hb.mono HY0.o.size));clear hb m0 m1 m2 m3 m4 m5 m6 m7 m8 m9 m10 m11 m12 m13 m14 l0 l1 l2 l3 l4 l5 r0 r1 r2 r3 r4 r5 rf;obtain ⟨m0,m1,m2,m3,m4,m5,m6,m7,m8,m9,m10,m11,m12,m13,m14⟩:=(HC.o Y1 HY1.o).1.mc;obtain ⟨l0,l1,l2,l3,l4,l5⟩:=(HC.o Y1 HY1.o).2.2.ly6;obtain ⟨r0,r1,r2,r3,r4,r5⟩:=(HC.o Y1 HY1.o).2.1.ly6;have rf:=(HC.o Y1 HY1.o).2.1.frozen;cases b1 with
 | false=>
   have HN:=zh (HF1.o (by simp));have k1:=(HC.o Y1 HY1.o).2.1;have hEN:=HEN.o Y1 (HVX.o Y1 HY1.o);go_wp2;exact iV k1 (qS none 0 0) (qI 0) (qS none 0 0) (qI 0) (qI 0) (qS none 0 0) false _ _ rfl rfl (dS (hEN _ _ _ _ _ _) HN.o)
 | true=>
 go_wp2_with fail
 refine (HME.o _ HY1.o).mono ?_;rintro e Y2 ⟨rfl,hb⟩;have HY2:=zh (HY1.o.trans (hb.mono HY1.o.size));clear hb m0 m1 m2 m3 m4 m5 m6 m7 m8 m9 m10 m11 m12 m13 m14 l0 l1 l2 l3 l4 l5 r0 r1 r2 r3 r4 r5 rf;obtain ⟨m0,m1,m2,m3,m4,m5,m6,m7,m8,m9,m10,m11,m12,m13,m14⟩:=(HC.o Y2 HY2.o).1.mc;obtain ⟨l0,l1,l2,l3,l4,l5⟩:=(HC.o Y2 HY2.o).2.2.ly6;obtain ⟨r0,r1,r2,r3,r4,r5⟩:=(HC.o Y2 HY2.o).2.1.ly6;have rf:=(HC.o Y2 HY2.o).2.1.frozen;cases b2 with
 | false=>
   have HN:=zh (HF2.o (by simp));have k1:=(HC.o Y2 HY2.o).2.1;have hEN:=HEN.o Y2 (HVX.o Y2 HY2.o);go_wp2;exact iV k1 (qS none 0 0) (qI 0) (qS none 0 0) (qI 0) (qI 0) (qS none 0 0) false _ _ rfl rfl (dS (hEN _ _ _ _ _ _) HN.o)
 | true=>
 go_wp2_with fail
 refine (HSL.o (HRR.o (by simp)) _ HY2.o).mono ?_;rintro e Y3 ⟨rfl,hb⟩;have HY3:=zh (HY2.o.trans (hb.mono HY2.o.size));clear hb m0 m1 m2 m3 m4 m5 m6 m7 m8 m9 m10 m11 m12 m13 m14 l0 l1 l2 l3 l4 l5 r0 r1 r2 r3 r4 r5 rf;obtain ⟨m0,m1,m2,m3,m4,m5,m6,m7,m8,m9,m10,m11,m12,m13,m14⟩:=(HC.o Y3 HY3.o).1.mc;obtain ⟨l0,l1,l2,l3,l4,l5⟩:=(HC.o Y3 HY3.o).2.2.ly6;obtain ⟨r0,r1,r2,r3,r4,r5⟩:=(HC.o Y3 HY3.o).2.1.ly6;have rf:=(HC.o Y3 HY3.o).2.1.frozen;cases b3 with
 | false=>
   have HN:=zh (HF3.o (by simp));have k1:=(HC.o Y3 HY3.o).2.1;have hEN:=HEN.o Y3 (HVX.o Y3 HY3.o);go_wp2;exact iV k1 (qS none 0 0) (qI 0) (qS none 0 0) (qI 0) (qI 0) (qS none 0 0) false _ _ rfl rfl (dS (hEN _ _ _ _ _ _) HN.o)
 | true=>
 go_wp2_with fail
 refine (HRU.o _ HY3.o).mono ?_;rintro e Y4 ⟨rfl,hb⟩;have HY4:=zh (HY3.o.trans (hb.mono HY3.o.size));clear hb m0 m1 m2 m3 m4 m5 m6 m7 m8 m9 m10 m11 m12 m13 m14 l0 l1 l2 l3 l4 l5 r0 r1 r2 r3 r4 r5 rf;obtain ⟨m0,m1,m2,m3,m4,m5,m6,m7,m8,m9,m10,m11,m12,m13,m14⟩:=(HC.o Y4 HY4.o).1.mc;obtain ⟨l0,l1,l2,l3,l4,l5⟩:=(HC.o Y4 HY4.o).2.2.ly6;obtain ⟨r0,r1,r2,r3,r4,r5⟩:=(HC.o Y4 HY4.o).2.1.ly6;have rf:=(HC.o Y4 HY4.o).2.1.frozen;cases b4 with
 | false=>
   have HN:=zh (HF4.o (by simp));have k1:=(HC.o Y4 HY4.o).2.1;have hEN:=HEN.o Y4 (HVX.o Y4 HY4.o);go_wp2;exact iV k1 (qS none 0 0) (qI 0) (qS none 0 0) (qI 0) (qI 0) (qS none 0 0) false _ _ rfl rfl (dS (hEN _ _ _ _ _ _) HN.o)
 | true=>
 go_wp2_with fail
 refine (HSH.o _ HY4.o).mono ?_;rintro e Y5 ⟨rfl,hb⟩;have HY5:=zh (HY4.o.trans (hb.mono HY4.o.size));clear hb m0 m1 m2 m3 m4 m5 m6 m7 m8 m9 m10 m11 m12 m13 m14 l0 l1 l2 l3 l4 l5 r0 r1 r2 r3 r4 r5 rf;obtain ⟨m0,m1,m2,m3,m4,m5,m6,m7,m8,m9,m10,m11,m12,m13,m14⟩:=(HC.o Y5 HY5.o).1.mc;obtain ⟨l0,l1,l2,l3,l4,l5⟩:=(HC.o Y5 HY5.o).2.2.ly6;obtain ⟨r0,r1,r2,r3,r4,r5⟩:=(HC.o Y5 HY5.o).2.1.ly6;have rf:=(HC.o Y5 HY5.o).2.1.frozen;cases b5 with
 | false=>
   have HN:=zh (HF5.o (by simp));have k1:=(HC.o Y5 HY5.o).2.1;have hEN:=HEN.o Y5 (HVX.o Y5 HY5.o);go_wp2;exact iV k1 (qS none 0 0) (qI 0) (qS none 0 0) (qI 0) (qI 0) (qS none 0 0) false _ _ rfl rfl (dS (hEN _ _ _ _ _ _) HN.o)
 | true=>
 have HN:=zh (HYY.o (by simp) (by simp) (by simp) (by simp) (by simp) (by simp) (by simp));have k1:=(HC.o Y5 HY5.o).2.1;have hEN:=HEN.o Y5 (HVX.o Y5 HY5.o);have HLE:Zh (LyT (st6 Y5 U.heap.size (qS a0 xs.length c0) (qI L.stack) (qS a2 L.slots.length c2) (qI L.flash) (qI L.ram) (qS a5 ts.length c5)) L a0 c0 xs a2 c2 a5 c5 ts):=((HOW.o.below' HY5.o).kept (cF _ _ _ _ _ _ _ _) (fun j hj _ e=>by have e':j=U.heap.size:=e;have:=HUS.o.2;omega)).lyt HLB.o.r HLV.o;go_wp2;exact iV k1 (qS a0 xs.length c0) (qI L.stack) (qS a2 L.slots.length c2) (qI L.flash) (qI L.ram) (qS a5 ts.length c5) true _ _ rfl rfl (aJc HEL.o (hEN _ _ _ _ _ _) HN.o HLE.o)
theorem MOk.cv {w:qw}(h:MOk M)(d:MnD w M):Cv M.cn M.L:=by
 have e1:=d.f.1;have e2:=d.r.1;have e3:=d.o.1;have e4:=d.k.1;have hc:=h.c;unfold cok at hc;simp at hc;exact ⟨h.l,rfl,by show mok M.fz.length M.rz.length M.oz.length=true;rw [e1,e2,e3];exact h.b,by show (M.rz.length:Int)=_;rw [e2];exact h.r,by show M.kz.length=8;omega,h.s,h.n,h.t⟩
def NmP (w:qw)(M:Mn)(e:Ending)(w':qw):Prop:=(¬ MOk M/\e=.returned (.tuple #[.pointer none,.bool false])/\qY w w')\/(MOk M/\∃ w1 G Y N a13 n13 c13 vr,e=.returned (.tuple #[.pointer (qP G),.bool true])/\qY w w1/\Mg w1 w' G Y M.cn N (qS a13 n13 c13) vr/\Y.L=M.L)
theorem tG (M:Mn)(g b1 o1 b2 o2 b3 o3 b4 o4:Nat)(Ls:List (PMod×Mb))(w:qw)(h:MnD w M)(H:MnS w M g b1 o1 b2 o2 b3 o3 b4 o4 Ls):qC 38 #[.agg (qA M)] w (NmP w M):=by
 obtain ⟨U,hU,bU,kU⟩:=nwb w (qA M) 43;have HVL:=zh (qD M U (h.bw bU));have HU:=zh hU;obtain ⟨m0,m1,m2,m3,m4,m5,m6,m7,m8,m9,m10,m11,m12,m13,m14⟩:=kU.mc;have HBU:=zh (xA bU kU);clear hU bU kU;by_cases ok:MOk M
 .have HCV:=zh (ok.cv h);have HOK:=zh ok;go_enter func38,ntmps38
  go_wp2_with (rw [<- HU.o])
  refine HVL.o.mono ?_;rintro e X0 ⟨hb0,y0,n0,d0,i1,y2,n2,d2,i3,i4,y5,n5,d5,bb,rfl,hbb,hly⟩;obtain rfl:bb=true:=hbb.2 ok;obtain ⟨a0,c0,xs,a2,c2,a5,c5,ts,ely,lyt⟩:=hly rfl;obtain ⟨Y,hY⟩:∃ Y:Lyb,Y=⟨M.L,a0,c0,xs,a2,c2,a5,c5,ts⟩:=⟨_,rfl⟩;have lyt':Y.T X0:=by rw [hY];exact lyt
  have ely':(#[qS y0 n0 d0,qI i1,qS y2 n2 d2,qI i3,qI i4,qS y5 n5 d5]:Array Value)=(qL Y.L Y.a0 Y.xs.length Y.c0 Y.a2 Y.L.slots.length Y.c2 Y.a5 Y.ts.length Y.c5):=by rw [hY];exact ely
  have hYL:Y.L=M.L:=by rw [hY]
  unfold mV at ely;simp only [Array.mk.injEq,List.cons.injEq,Value.slice.injEq,Value.int.injEq,and_true,true_and] at ely';obtain ⟨⟨rfl,rfl,rfl⟩,rfl,⟨rfl,rfl,rfl⟩,rfl,rfl,rfl,rfl,rfl⟩:=ely';obtain ⟨w1,hw1,b1',kl⟩:=nwb X0 (qL Y.L Y.a0 Y.xs.length Y.c0 Y.a2 Y.L.slots.length Y.c2 Y.a5 Y.ts.length Y.c5) 71;have bU1:=hb0.trans (b1'.mono hb0.size);have km:=HBU.o.2.bw bU1;have Bw1:=HBU.o.1.trans (bU1.mono HBU.o.1.size);have lyt1:=lyt'.bw b1'
  have HCP:=zh (fun (X:qw) (hX:qY w1 X)=>(jX M g b1 o1 b2 o2 b3 o3 b4 o4 Ls X ((H.bw Bw1).bw hX)).mono (fun e w' he=>show ∃ N base mid L β,e=.returned (.agg (qA N))/\qY w1 w'/\MxO w' base mid M.cn N L β/\w1.heap.size<=base/\mid<=w'.heap.size from by
   obtain ⟨hb,N,base,mid,L,β,he,hm,h1,h2⟩:=he
   exact ⟨N,base,mid,L,β,he,hX.trans (hb.mono hX.size),hm,xM hX.size h1,h2⟩))
  have HC:=zh (fun (X:qw) (hX:qY w1 X)=>show (X.cell? (qR w.heap.size 0)=some (qS M.ma M.mn M.mc)/\X.cell? (qR w.heap.size 1)=some (qI M.cs)/\X.cell? (qR w.heap.size 2)=some (qI M.cw)/\X.cell? (qR w.heap.size 3)=some (qI M.ck)/\X.cell? (qR w.heap.size 4)=some (qI M.cd)/\X.cell? (qR w.heap.size 5)=some (qI M.pc)/\X.cell? (qR w.heap.size 6)=some (qS M.ka M.kn M.kc)/\X.cell? (qR w.heap.size 7)=some (qS M.fa M.fn M.fc)/\X.cell? (qR w.heap.size 8)=some (qS M.ra M.rn M.rc)/\X.cell? (qR w.heap.size 9)=some (qS M.oa M.on M.oc)/\X.cell? (qR w.heap.size 10)=some (qI M.md)/\X.cell? (qR w.heap.size 11)=some (qI M.bk)/\X.cell? (qR w.heap.size 12)=some (qS M.la M.ln M.lc)/\X.cell? (qR w.heap.size 13)=some (qS M.ha M.hn M.hc)/\X.cell? (qR w.heap.size 14)=some (qI M.tn))/\X.cell? (qR X0.heap.size 0)=some (qS Y.a0 Y.xs.length Y.c0)/\X.cell? (qR X0.heap.size 1)=some (qI Y.L.stack)/\X.cell? (qR X0.heap.size 2)=some (qS Y.a2 Y.L.slots.length Y.c2)/\X.cell? (qR X0.heap.size 3)=some (qI Y.L.flash)/\X.cell? (qR X0.heap.size 4)=some (qI Y.L.ram)/\X.cell? (qR X0.heap.size 5)=some (qS Y.a5 Y.ts.length Y.c5) from ⟨(km.bw hX).mc,(kl.bw hX).ly6⟩);have HW1:=zh hw1;have HY1:=zh (xA lyt1 (xA Bw1 hYL));clear m0 m1 m2 m3 m4 m5 m6 m7 m8 m9 m10 m11 m12 m13 m14 hbb hly ely lyt lyt' hw1 b1' kl bU1 km Bw1 lyt1 hY hYL h H HVL HU hb0 ok;obtain ⟨⟨m0,m1,m2,m3,m4,m5,m6,m7,m8,m9,m10,m11,m12,m13,m14⟩,q0,q1,q2,q3,q4,q5⟩:=HC.o w1 brf;go_wp2_with (rw [<- HW1.o])
  go_region_held3 (fun w'=>(w'.cell? (qR w.heap.size 0)=some (qS M.ma M.mn M.mc)/\w'.cell? (qR w.heap.size 1)=some (qI M.cs)/\w'.cell? (qR w.heap.size 2)=some (qI M.cw)/\w'.cell? (qR w.heap.size 3)=some (qI M.ck)/\w'.cell? (qR w.heap.size 4)=some (qI M.cd)/\w'.cell? (qR w.heap.size 5)=some (qI M.pc)/\w'.cell? (qR w.heap.size 6)=some (qS M.ka M.kn M.kc)/\w'.cell? (qR w.heap.size 7)=some (qS M.fa M.fn M.fc)/\w'.cell? (qR w.heap.size 8)=some (qS M.ra M.rn M.rc)/\w'.cell? (qR w.heap.size 9)=some (qS M.oa M.on M.oc)/\w'.cell? (qR w.heap.size 10)=some (qI M.md)/\w'.cell? (qR w.heap.size 11)=some (qI M.bk)/\w'.cell? (qR w.heap.size 12)=some (qS M.la M.ln M.lc)/\w'.cell? (qR w.heap.size 13)=some (qS M.ha M.hn M.hc)/\w'.cell? (qR w.heap.size 14)=some (qI M.tn))/\w'.cell? (qR X0.heap.size 0)=some (qS Y.a0 Y.xs.length Y.c0)/\w'.cell? (qR X0.heap.size 1)=some (qI Y.L.stack)/\w'.cell? (qR X0.heap.size 2)=some (qS Y.a2 Y.L.slots.length Y.c2)/\w'.cell? (qR X0.heap.size 3)=some (qI Y.L.flash)/\w'.cell? (qR X0.heap.size 4)=some (qI Y.L.ram)/\w'.cell? (qR X0.heap.size 5)=some (qS Y.a5 Y.ts.length Y.c5)) (go_keep)
   (first
     | (go_at_call 40;first
         | with_reducible refine (HCP.o _ brf).mono ?_
         | with_reducible refine (HCP.o _ brf.drew).mono ?_
        rintro e X2 ⟨N,base,mid,L,β,rfl,hb2,hm,hq1,hq2⟩
        obtain ⟨⟨p0,p1,p2,p3,p4,p5,p6,p7,p8,p9,p10,p11,p12,p13,p14⟩,q0,q1,q2,q3,q4,q5⟩:=HC.o X2 hb2))
  obtain ⟨G,hG⟩:=eqx (X2.heap.size);obtain ⟨X3,hX3⟩:=eqx (X2.alloc (.cells #[qS N.ma N.mn N.mc,qI N.cs,qI N.cw,qI N.ck,qI N.cd,qI N.pc,qS N.ka N.kn N.kc,qS N.fa N.fn N.fc,qS N.ra N.rn N.rc,qS N.oa N.on N.oc,qI N.md,qI N.bk,qS N.la N.ln N.lc,qS N.ha N.hn N.hc,qI N.tn,qS Y.a0 Y.xs.length Y.c0,qI Y.L.stack,qS Y.a2 Y.L.slots.length Y.c2,qI Y.L.flash,qI Y.L.ram,qS Y.a5 Y.ts.length Y.c5,qI 0,qS none 0 0,qS none 0 0] 110));have b3:qY X2 X3:=by rw [hX3];exact bal
  have kG:Blk X3 G #[qS N.ma N.mn N.mc,qI N.cs,qI N.cw,qI N.ck,qI N.cd,qI N.pc,qS N.ka N.kn N.kc,qS N.fa N.fn N.fc,qS N.ra N.rn N.rc,qS N.oa N.on N.oc,qI N.md,qI N.bk,qS N.la N.ln N.lc,qS N.ha N.hn N.hc,qI N.tn,qS Y.a0 Y.xs.length Y.c0,qI Y.L.stack,qS Y.a2 Y.L.slots.length Y.c2,qI Y.L.flash,qI Y.L.ram,qS Y.a5 Y.ts.length Y.c5,qI 0,qS none 0 0,qS none 0 0] 110:=by rw [hX3,hG];exact Blk.new _ _ _
  have hb3:=hb2.trans (b3.mono hb2.size);have p4':X3.cell? (qR w.heap.size 4)=some (qI M.cd):=(HC.o X3 hb3).1.2.2.2.2.1;have hws:w.heap.size<w1.heap.size:=xD w1 _ m0;have hGw:w1.heap.size<=G:=by rw [hG];exact hb2.size
  have hn1:¬ G=w.heap.size:=by omega
  have hn2:¬ w.heap.size=G:=by omega
  have x13:=kG.e13;have x21:X3.cell? (qR G 21)=some (qI 0):=kG.cell 21;have x22:X3.cell? (qR G 22)=some (qS none 0 0):=kG.cell 22;have xf:=kG.frozen;have ecd:N.cd=M.cd:=hm.vs.2.2.2.1;have kG2:=(kG.set 21 (qI M.cd)).set 22 (qS N.ha N.hn N.hc);have z13:=kG2.e13;obtain ⟨X4,hX4⟩:=eqx (((X3.setCell ⟨G,21,none⟩ (qI M.cd)).setCell ⟨G,22,none⟩ (qS N.ha N.hn N.hc)).drew);have T4:=(aC X3 G 21 (qI M.cd)).trans (aC _ G 22 (qS N.ha N.hn N.hc))
  have hMg:Mg w1 X4 G Y M.cn N (qS N.ha N.hn N.hc) (qS none 0 0):=by
   rw [hX4];refine Mg.bw ⟨aG hb3 T4 (fun j hj=>by omega) hb3.size,hGw,?_,⟨base,mid,L,β,(hm.bw b3).gm kG (by rw [hG];exact hq2) T4,hq1,by rw [hG];exact hq2⟩,HY1.o.1⟩ brf.drew;try unfold qA at *
   try unfold qL at *
   rw [ecd] at kG2 ⊢;exact kG2
  have HLW:=zh ((oU w1 G Y M.cn N _ _ X4 hMg (by rw [HY1.o.2.2];exact HCV.o.cz)).1);have HX4:=zh hX4;have HX3:=zh hX3;have HG:=zh hG;clear m0 m1 m2 m3 m4 m5 m6 m7 m8 m9 m10 m11 m12 m13 m14 p0 p1 p2 p3 p4 p5 p6 p7 p8 p9 p10 p11 p12 p13 p14 q0 q1 q2 q3 q4 q5 hb2 hm hq1 hq2 b3 hb3 kG kG2 T4 hMg hX3 hX4 HC HCP HW1 HBU ecd hG hws hGw;rw [<- HX3.o,<- HG.o];go_wp2_with fail
  go_region_held3 (fun w'=>w'.cell? (qR w.heap.size 4)=some (qI M.cd)/\w'.cell? (qR G 13)=some (qS N.ha N.hn N.hc)) (go_keep) (fail)
  rw [<- HX4.o];clear p4' x13 x21 x22 xf z13;go_wp2_with fail
  refine HLW.o.mono ?_;rintro e X5 ⟨rfl,A,k,c,hM,_,_⟩;have HE:Zh (NmP w M (.returned (.tuple #[.pointer (qP G),.bool true])) X5):=.inr ⟨HOK.o,w1,G,Y,N,_,_,_,_,rfl,HY1.o.2.1,hM,HY1.o.2.2⟩;clear hM HLW;go_wp2
  go_ret2
  exact HE.o
 .go_enter func38,ntmps38
  go_wp2_with (rw [<- HU.o])
  refine HVL.o.mono ?_;rintro e X0 ⟨hb0,y0,n0,d0,i1,y2,n2,d2,i3,i4,y5,n5,d5,bb,rfl,hbb,_⟩;obtain rfl:bb=false:=by cases bb;rfl;exact absurd (hbb.1 rfl) ok
  have HE:Zh (NmP w M (.returned (.tuple #[.pointer none,.bool false])) (X0.alloc (.cells #[qS y0 n0 d0,qI i1,qS y2 n2 d2,qI i3,qI i4,qS y5 n5 d5] 71))):=.inl ⟨ok,rfl,(HBU.o.1.trans (hb0.mono HBU.o.1.size)).alloc (by have h1:=HBU.o.1.size;have h2:=hb0.size;omega) _⟩;clear hb0 hbb ok h H;go_wp2
  go_ret2
  exact HE.o
theorem aOb {W:qw}(k1:Blk W q z15 43)(v0 v1 v2 v3 v4 v5 v6 v7 v8 v9 v10 v11 v12 v13 v14:Value)(Q:Ending->World->Prop)(tmps:Array Value)(h2:tmps[2]?=some (.pointer (qP q)))(hQ:Q (.returned (.agg #[v0,v1,v2,v3,v4,v5,v6,v7,v8,v9,v10,v11,v12,v13,v14])) (mL W q v0 v1 v2 v3 v4 v5 v6 v7 v8 v9 v10 v11 v12 v13 v14)):
 bodyPost prog f41 Q Exit.ret ⟨tmps,[]⟩ (mL W q v0 v1 v2 v3 v4 v5 v6 v7 v8 v9 v10 v11 v12 v13 v14):=by
 obtain ⟨t0,t1,t2,t3,t4,t5,t6,t7,t8,t9,t10,t11,t12,t13,t14⟩:=(iQ k1 v0 v1 v2 v3 v4 v5 v6 v7 v8 v9 v10 v11 v12 v13 v14).mc;refine bodyPost_ret_by (v:=.agg #[v0,v1,v2,v3,v4,v5,v6,v7,v8,v9,v10,v11,v12,v13,v14]) ?_ rfl hQ;simp [results,results41,go_sem,h2,t0,t1,t2,t3,t4,t5,t6,t7,t8,t9,t10,t11,t12,t13,t14]
theorem aF7 (w1:qw)(G:Nat)(Y:Lyb)(C:Cn)(M:Mn)(a13:qO)(n13 c13:Nat)(vr:Value)(w:qw)(h:Mg w1 w G Y C M (qS a13 n13 c13) vr):qC 41 #[.pointer (qP G)] w (qB w (.agg (qA M))):=by
 obtain ⟨V,hV⟩:=eqx (w.alloc (.cells qZ 43));have bV:qY w V:=by rw [hV];exact bal
 have kV:Blk V w.heap.size z15 43:=by rw [hV];exact Blk.new _ _ _
 have hsz:V.heap.size=w.heap.size+1:=by rw [hV];simp
 obtain ⟨X,hX⟩:=eqx (V.alloc (.cells (qA M) 43));have bX:qY V X:=by rw [hX];exact bal
 have kX:Blk X (w.heap.size+1) (qA M) 43:=by rw [hX,<- hsz];exact Blk.new _ _ _
 have kr:=kV.bw bX;have KR:=kr;unfold z15 at KR;obtain ⟨r0,r1,r2,r3,r4,r5,r6,r7,r8,r9,r10,r11,r12,r13,r14⟩:=KR.mc;have rf:=KR.frozen;obtain ⟨x0,x1,x2,x3,x4,x5,x6,x7,x8,x9,x10,x11,x12,x13,x14⟩:=kX.mc;obtain ⟨k0,k1,k2,k3,k4,k5,k6,k7,k8,k9,k10,k11,k12,k13,k14,k15,k16,k17,k18,k19,k20,k21,k22,k23⟩:=(h.k.bw bV).mg;have BX:=bV.trans (bX.mono bV.size);have y22:(V.alloc (.cells (qX M M.ma M.mn M.mc M.ka M.kn M.kc M.fa M.fn M.fc M.ra M.rn M.rc M.oa M.on M.oc M.la M.ln M.lc a13 n13 c13) 43)).cell? (qR G 22)=some (qS M.ha M.hn M.hc):=((h.k.bw bV).alloc _).cell 22;have HE:Zh (qY w (mL X w.heap.size (qS M.ma M.mn M.mc) (qI M.cs) (qI M.cw) (qI M.ck) (qI M.cd) (qI M.pc) (qS M.ka M.kn M.kc) (qS M.fa M.fn M.fc) (qS M.ra M.rn M.rc) (qS M.oa M.on M.oc) (qI M.md) (qI M.bk) (qS M.la M.ln M.lc) (qS M.ha M.hn M.hc) (qI M.tn))):=aG BX (cG _ _ _ _ _ _ _ _ _ _ _ _ _ _ _ _ _ ) (fun j hj=>by omega) BX.size;have HKR:=zh kr;have HX:=zh hX;have HV:=zh hV;clear hX hV bX bV kV kr KR kX BX h;go_enter func41,ntmps41
 go_wp2_with (first|rw [<- HV.o]|rw [<- HX.o])
 exact aOb HKR.o _ _ _ _ _ _ _ _ _ _ _ _ _ _ _ _ _ rfl ⟨rfl,HE.o⟩
abbrev stM (W:World)(q:Nat)(N:Mn):World:=mL W q (qS N.ma N.mn N.mc) (qI N.cs) (qI N.cw) (qI N.ck) (qI N.cd) (qI N.pc) (qS N.ka N.kn N.kc) (qS N.fa N.fn N.fc) (qS N.ra N.rn N.rc) (qS N.oa N.on N.oc) (qI N.md) (qI N.bk) (qS N.la N.ln N.lc) (qS N.ha N.hn N.hc) (qI N.tn)
theorem aJe {w W W':qw}{g:Nat}(h:TGx w W)(T:Turn (fun j=>j=g) W W')(hg:w.heap.size<=g):TGx w W':=⟨T.os.trans h.os,T.tape.trans h.tape,T.output.trans h.output,xM h.size T.size,fun k hk hs=>(T.block k (Nat.lt_of_lt_of_le hk h.size) (fun (e:k=g)=>by omega)).trans (h.block k hk hs)⟩
structure Se (w1 w W:qw)(Y:Lyb)(m b t:Int)(C:Cn)(M:Mn)(base mid:Nat)(Ls:List (PMod×Mb))(β:Nat->Nat):Prop where
 tg:TGx w W
 lo:qY w1 W
 l:w1.heap.size<=w.heap.size
 k0:Blk W w.heap.size (qA M) 43
 k1:Blk W (w.heap.size+1) (qL Y.L Y.a0 Y.xs.length Y.c0 Y.a2 Y.L.slots.length Y.c2 Y.a5 Y.ts.length Y.c5) 71
 k2:Blk W (w.heap.size+1+1) (qT m b t) 58
 k3:Blk W (w.heap.size+1+1+1) z15 43
 m:MxO W base mid C M Ls β
theorem Se.bw {w1 w W:qw}{W':qw}(h:Se w1 w W Y m b t C M base mid Ls β)(hb:qY W W'):Se w1 w W' Y m b t C M base mid Ls β:=⟨h.tg.trans (bD hb),h.lo.trans (hb.mono h.lo.size),h.l,h.k0.bw hb,h.k1.bw hb,h.k2.bw hb,h.k3.bw hb,h.m.bw hb⟩
theorem Se.put {w1 w W:qw}(h:Se w1 w W Y m b t C M base mid Ls β)(i:Nat)(v:Value)(e:((qA M):Array Value).setIfInBounds i v=(qA M'))(hm:∀ {X:qw},MxO X base mid C M Ls β->MxO X base mid C' M' Ls β):Se w1 w (W.setCell (qR w.heap.size i) v) Y m b t C' M' base mid Ls β:=by
 have T:=aC W w.heap.size i v;have k:=h.k0.set i v;rw [e] at k;exact ⟨aJe h.tg T aN,aG h.lo T (fun j hj=>by have:=h.l;omega) h.lo.size,h.l,k,h.k1.other _ _ (by dsimp only;omega),h.k2.other _ _ (by dsimp only;omega),h.k3.other _ _ (by dsimp only;omega),hm (h.m.tm (iZ h.k0 T))⟩
theorem Se.upd {w1 w W:qw}{W':qw}{S:Nat->Prop}(h:Se w1 w W Y m b t C M base mid Ls β)(T:Turn S W W')(hS:∀ j,S j->w1.heap.size<=j/\∃ cs ty,Blk W j cs ty/\gkd ty)(e:((qA M):Array Value)=(qA M'))(hm:MxO W' base mid C' M' Ls β):Se w1 w W' Y m b t C' M' base mid Ls β:=by
 have key:∀ {j:Nat} {cs:Array Value} {ty:TypeId},Blk W j cs ty->(ty=43\/ty=71\/ty=58)->Blk W' j cs ty:=fun kb ht=>aF T kb (fun s=>by
  obtain ⟨_,c2,t2,k2,n1⟩:=hS _ s;have:=aH kb k2;rw [<- this] at n1;unfold gkd at n1
  rcases ht with rfl|rfl|rfl<;>exact absurd n1 (by decide))
 exact ⟨h.tg.trans (dT T (fun j hj=>(hS j hj).2)),aG h.lo T (fun j hj=>(hS j hj).1) h.lo.size,h.l,by rw [<- e];exact key h.k0 (.inl rfl),key h.k1 (.inr (.inl rfl)),key h.k2 (.inr (.inr rfl)),key h.k3 (.inl rfl),hm⟩
theorem Se.reg {w1 w W:qw}(h:Se w1 w W Y m b t C M base mid Ls β)(hw:w1.heap.size<=base){gk:Nat}(e:M.ka=some (qR gk 0))(i:Nat)(hi:i<M.kn)(z:Int)(hz:wfi z):Se w1 w (W.setCell (qR gk i) (qI z)) Y m b t { C with kz:=C.kz.set i z } { M with kz:=C.kz.set i z } base mid Ls β:=by
 have mk:=h.m.k;rw [e] at mk;obtain ⟨cs,kb⟩:=aD mk.1 (k:=gk) rfl;have lo:=(mk.lt gk rfl).1;have bm:=h.m.bm;exact h.upd (aC W gk i _) (fun j hj=>by subst hj;exact ⟨by omega,cs,_,kb,.inr (.inr (.inr rfl))⟩) rfl (h.m.reg e i hi z hz)
theorem MxO.stn {W:qw}(h:MxO W base mid C M Ls β)(v:Int):MxO W base mid { C with tn:=v } { M with tn:=v } Ls β:=⟨h.m,h.e,h.k,h.q,h.l,h.h,h.bm,h.bh,⟨h.vs.1,h.vs.2.1,h.vs.2.2.1,h.vs.2.2.2.1,h.vs.2.2.2.2.1,h.vs.2.2.2.2.2.1,h.vs.2.2.2.2.2.2.1,rfl⟩,h.vz⟩
theorem Se.slot {w1 w W:qw}(h:Se w1 w W Y m b t C M base mid Ls β)(hw:w1.heap.size<=base){gl:Nat}(e:M.la=some (qR gl 0))(i:Nat)(hi:i<M.ln)(x0:Bool)(x1 x2 x3:Int):Se w1 w ((((W.setCell (qR gl (i*4)) (.bool x0)).setCell (qR gl (i*4+1)) (qI x1)).setCell (qR gl (i*4+2)) (qI x2)).setCell (qR gl (i*4+3)) (qI x3)) Y m b t { C with lz:=C.lz.set i (x0,x1,x2,x3) } { M with lz:=C.lz.set i (x0,x1,x2,x3) } base mid Ls β:=by
 have ml:=h.m.l;rw [e] at ml;obtain ⟨cs,kb⟩:=aD ml (k:=gl) rfl;have lo:=(ml.lt gl rfl).1;have bm:=h.m.bm;exact h.upd ((((aC W gl _ _).trans (aC _ gl _ _)).trans (aC _ gl _ _)).trans (aC _ gl _ _)) (fun j hj=>by subst hj;exact ⟨by omega,cs,_,kb,.inr (.inr (.inl rfl))⟩) rfl (h.m.slot e i hi x0 x1 x2 x3)
theorem Se.mem {w1 w W:qw}{W':qw}(h:Se w1 w W Y m b t C M base mid Ls β)(hw:w1.heap.size<=base){gr:Nat}(e:M.ra=some (qR gr 0))(T:Turn (fun j=>j=gr) W W'){R:qi}(q:OB W' mid (qS M.ra M.rn M.rc) R):Se w1 w W' Y m b t { C with rz:=R } { M with rz:=R } base mid Ls β:=by
 have mq:=h.m.q;rw [e] at mq q;obtain ⟨cs,kb⟩:=aD mq.2.1.1 (k:=gr) rfl;have lo:=(mq.2.1.lt gr rfl).1;have bm:=h.m.bm;have hz:=h.m.vz.2.2.2.2.1
 have q3:gK W' mid (qS M.fa M.fn M.fc) (qS M.ra M.rn M.rc) (qS M.oa M.on M.oc) C.fz R C.oz:=by
  rw [e];exact ⟨aU T mq.1 (fun k hk (s:k=gr)=>by have:=mq.2.2.2.1 k gr hk rfl;omega),q,aU T mq.2.2.1 (fun k hk (s:k=gr)=>by have:=mq.2.2.2.2.2 gr k rfl hk;omega),mq.2.2.2⟩
 have m2:=h.m.mem T (fun j hj=>by subst hj;exact ⟨lo,cs,_,kb,.inl rfl⟩) q3;refine h.upd T (fun j hj=>by subst hj;exact ⟨by omega,cs,_,kb,.inl rfl⟩) rfl ?_;rw [<- hz] at m2;exact ⟨m2.m,m2.e,m2.k,q3,m2.l,m2.h,m2.bm,m2.bh,m2.vs,⟨m2.vz.1,m2.vz.2.1,m2.vz.2.2.1,rfl,hz,m2.vz.2.2.2.2.2⟩⟩
def LeP (w1 w:qw)(base mid:Nat)(Ls:List (PMod×Mb))(β:Nat->Nat)(Y:Lyb)(C:Cn)(m b t:Int)(e:Ending)(w':qw):Prop:=∃ M',e=.returned (.agg (qA M'))/\MxO w' base mid (gJ C Y.L m b t) M' Ls β/\qY w1 w'/\TGx w w'
theorem aNo {W:qw}(k1:Blk W q z15 43)(v0 v1 v2 v3 v4 v5 v6 v7 v8 v9 v10 v11 v12 v13 v14:Value)(Q:Ending->World->Prop)(tmps:Array Value)(h6:tmps[6]?=some (.pointer (qP q)))(hQ:Q (.returned (.agg #[v0,v1,v2,v3,v4,v5,v6,v7,v8,v9,v10,v11,v12,v13,v14])) (mL W q v0 v1 v2 v3 v4 v5 v6 v7 v8 v9 v10 v11 v12 v13 v14)):
 bodyPost prog f62 Q Exit.ret ⟨tmps,[]⟩ (mL W q v0 v1 v2 v3 v4 v5 v6 v7 v8 v9 v10 v11 v12 v13 v14):=by
 obtain ⟨t0,t1,t2,t3,t4,t5,t6,t7,t8,t9,t10,t11,t12,t13,t14⟩:=(iQ k1 v0 v1 v2 v3 v4 v5 v6 v7 v8 v9 v10 v11 v12 v13 v14).mc;refine bodyPost_ret_by (v:=.agg #[v0,v1,v2,v3,v4,v5,v6,v7,v8,v9,v10,v11,v12,v13,v14]) ?_ rfl hQ;simp [results,results62,go_sem,h6,t0,t1,t2,t3,t4,t5,t6,t7,t8,t9,t10,t11,t12,t13,t14]
def awy (C:Cn)(L:Lay)(a:Int):Int:=a-dY L (plc C.ps C.md.toNat) C.bk (hld C.lz C.md C.bk)
def atB (C:Cn)(L:Lay)(a:Int):Bool:=decide (0<=awy C L a/\awy C L a%4=0/\awy C L a/4<=pcq C.ps C.md C.bk)
theorem aKe (h:Cv C L):0<=dY L (plc C.ps C.md.toNat) C.bk (hld C.lz C.md C.bk)/\dY L (plc C.ps C.md.toNat) C.bk (hld C.lz C.md C.bk)<=100000:=by
 obtain ⟨_,_,_,hl,hk⟩:=h.cf;rcases h.cz.s with e|⟨e1,e2,e3⟩
 .rw [e];exact aEo hk h.cz.p
 .unfold dY;rw [if_neg e1,if_neg (by omega)];have:=h.slot (i:=(hld C.lz C.md C.bk).toNat) (by omega);omega
theorem aL8 (h:Cv C L){a D:Int}(hD:awy C L a=D):(D.tmod 4=0/\tgk C.ps C.md C.bk (D.tdiv 4)) ↔ atB C L a=true:=by
 have hp:=h.cz.p;unfold atB tgk;rw [hD,decide_eq_true_eq];by_cases c:0<=D
 .rw [Int.tmod_eq_emod_of_nonneg c,Int.tdiv_eq_ediv_of_nonneg c];omega
 .have q:=Int.tmod_add_mul_tdiv D 4;omega
theorem aAb (w1:qw)(G:Nat)(Y:Lyb)(C:Cn)(M:Mn)(v13 vr:Value)(a:Int)(w:qw)(h:Mg w1 w G Y C M v13 vr)(hv:Cv C Y.L)(ha:0<=a/\a<=4294967295):
 qC 133 #[.pointer (qP G),qI a] w fun e w'=>(∃ z:Int,e=.returned (.tuple #[.agg (qT C.md C.bk z),.bool (atB C Y.L a)])/\(atB C Y.L a=true->z=awy C Y.L a/4))/\qY w w':=by
 obtain ⟨U,hU,bU,kU⟩:=nwb w (qT 0 0 0) 58;have hg:G<w.heap.size:=h.k.lt;have hU2:=h.bw bU;obtain ⟨⟨_,_,_,_,_,e1,e2,_⟩,ep,_⟩:=h.vs;have KN:=mS (s:=0) hU2.ly hv.cf.2.2.2.2 hv.cz.p;have HPI:=zh (yO w1 G Y C M v13 vr U hU2);rw [e1,e2] at HPI;obtain ⟨S,hS⟩:=eqx (hld C.lz C.md C.bk);obtain ⟨Z,hZ⟩:=eqx (dY Y.L (plc C.ps C.md.toNat) C.bk S);obtain ⟨D,hD⟩:=eqx (a-Z);have hA:awy C Y.L a=D:=by unfold awy;rw [hD,hZ,hS]
 have hzr:=aKe hv;rw [<- hS,<- hZ] at hzr;have hsf:=hv.cz.s;rw [<- hS] at hsf;have HSL:=zh (fun (X:qw) (hX:qY U X)=>(sH w1 G Y C M v13 vr X (hU2.bw hX)).mono (fun e w' he=>show e=.returned (qI S)/\qY X w' from ⟨by rw [he.1,e1,e2,hS],he.2⟩));have HOR:=zh (fun (X:qw) (hX:qY U X)=>(jF Y.L Y.a0 Y.c0 Y.xs Y.a2 Y.c2 Y.a5 Y.c5 Y.ts C.md C.bk 0 S X (hU2.bw hX).ly KN.m0 KN.m1 KN.bb hsf).mono (fun e w' he=>show e=.returned (qI Z)/\qY X w' from ⟨by rw [he.1,aA0,KN.p,hZ],he.2⟩));have HTK:=zh (fun (X:qw) (hX:qY U X)=>(jA M.ma M.mn M.mc M.ms C.md C.bk (D.tdiv 4) X ((hU2.mnd hv.cf.2.1).m.bw hX)).mono (fun e w' he=>show e=.returned (.bool (decide (tgk C.ps C.md C.bk (D.tdiv 4))))/\qY X w' from ⟨by rw [he.1,ep],he.2⟩));have HC:=zh (fun (X:qw) (hX:qY U X)=>show X.cell? (qR G 0)=some (qS M.ma M.mn M.mc)/\(X.cell? (qR G 15)=some (qS Y.a0 Y.xs.length Y.c0)/\X.cell? (qR G 16)=some (qI Y.L.stack)/\X.cell? (qR G 17)=some (qS Y.a2 Y.L.slots.length Y.c2)/\X.cell? (qR G 18)=some (qI Y.L.flash)/\X.cell? (qR G 19)=some (qI Y.L.ram)/\X.cell? (qR G 20)=some (qS Y.a5 Y.ts.length Y.c5))/\Blk X w.heap.size (qT 0 0 0) 58 from ⟨(hU2.bw hX).k.cell 0,⟨(hU2.bw hX).k.cell 15,(hU2.bw hX).k.cell 16,(hU2.bw hX).k.cell 17,(hU2.bw hX).k.cell 18,(hU2.bw hX).k.cell 19,(hU2.bw hX).k.cell 20⟩,kU.bw hX⟩);obtain ⟨r,hr⟩:=eqx (atB C Y.L a);have HAT:=zh (aL8 hv hA);rw [<- hr] at HAT;rw [<- hr,hA];have hw1:IntKind.i64.wrap (a-Z)=D:=by rw [<- hD,xP,xQ _ (by omega)]
 have hw2:IntKind.i64.wrap (D.tdiv 4)=D.tdiv 4:=by
  have q:=Int.tmod_add_mul_tdiv D 4;have:=Int.lt_tmod_of_pos D (show (0:Int)<4 by omega);have:=Int.tmod_lt_of_pos D (show (0:Int)<4 by omega);rw [xP,xQ _ (by omega)]
 have HDV:=zh (fun (hrt:r=true)=>show D.tdiv 4=D/4 from by
  have:0<=D:=by
   have:=hrt;rw [hr] at this;unfold atB at this;rw [hA,decide_eq_true_eq] at this;exact this.1
  rw [Int.tdiv_eq_ediv_of_nonneg this])
 have HU:=zh hU;have HBU:=zh bU;have hsz:U.heap.size=w.heap.size+1:=by rw [hU];simp
 clear hU bU kU h hU2 hv ha KN e1 e2 ep hS hZ hD hA hzr hsf hr;go_enter func133,ntmps133
 go_wp2_with (rw [<- HU.o])
 refine HPI.o.mono ?_;rintro e X1 ⟨rfl,hb1⟩;obtain ⟨V,hV,bV,kV⟩:=nwb X1 (qT C.md C.bk 0) 58;have bUV:=hb1.trans (bV.mono hb1.size);have hs1:U.heap.size<=X1.heap.size:=hb1.size;have HV:=zh hV;have hn1:¬ G=X1.heap.size:=by omega
 have hn2:¬ X1.heap.size=G:=by omega
 have hn3:¬ w.heap.size=X1.heap.size:=by omega
 have hn4:¬ X1.heap.size=w.heap.size:=by omega
 have hn5:¬ G=w.heap.size:=by omega
 have hn6:¬ w.heap.size=G:=by omega
 have HCV:=zh (fun (X:qw) (hX:qY V X)=>show (X.cell? (qR G 15)=some (qS Y.a0 Y.xs.length Y.c0)/\X.cell? (qR G 16)=some (qI Y.L.stack)/\X.cell? (qR G 17)=some (qS Y.a2 Y.L.slots.length Y.c2)/\X.cell? (qR G 18)=some (qI Y.L.flash)/\X.cell? (qR G 19)=some (qI Y.L.ram)/\X.cell? (qR G 20)=some (qS Y.a5 Y.ts.length Y.c5))/\X.cell? (qR X1.heap.size 0)=some (qI C.md)/\X.cell? (qR X1.heap.size 1)=some (qI C.bk)/\X.cell? (qR X1.heap.size 2)=some (qI 0) from by
  obtain ⟨_,q,_⟩:=HC.o X (bUV.trans (hX.mono bUV.size))
  exact ⟨q,(kV.bw hX).cell 0,(kV.bw hX).cell 1,(kV.bw hX).cell 2⟩)
 have HKV:=zh (fun (X:qw) (hX:qY V X)=>xA (kV.bw hX) (bUV.trans (hX.mono bUV.size)));have HSV:=zh (fun (X:qw) (hX:qY V X)=>(HSL.o X (bUV.trans (hX.mono bUV.size))).mono (fun e w' he=>show e=.returned (qI S)/\qY V w' from ⟨he.1,hX.trans (he.2.mono hX.size)⟩));have HOV:=zh (fun (X:qw) (hX:qY V X)=>(HOR.o X (bUV.trans (hX.mono bUV.size))).mono (fun e w' he=>show e=.returned (qI Z)/\qY V w' from ⟨he.1,hX.trans (he.2.mono hX.size)⟩));clear hb1 hV bV kV bUV HPI HU HSL HOR;obtain ⟨⟨l0,l1,l2,l3,l4,l5⟩,t0,t1,t2⟩:=HCV.o V brf;go_wp2_with (rw [<- HV.o])
 go_region_held3 (fun w'=>(w'.cell? (qR G 15)=some (qS Y.a0 Y.xs.length Y.c0)/\w'.cell? (qR G 16)=some (qI Y.L.stack)/\w'.cell? (qR G 17)=some (qS Y.a2 Y.L.slots.length Y.c2)/\w'.cell? (qR G 18)=some (qI Y.L.flash)/\w'.cell? (qR G 19)=some (qI Y.L.ram)/\w'.cell? (qR G 20)=some (qS Y.a5 Y.ts.length Y.c5))/\w'.cell? (qR X1.heap.size 0)=some (qI C.md)/\w'.cell? (qR X1.heap.size 1)=some (qI C.bk)/\w'.cell? (qR X1.heap.size 2)=some (qI 0)) (go_keep)
  (first
    | (go_at_call 131;first
        | with_reducible refine (HSV.o _ brf).mono ?_
        | with_reducible refine (HSV.o _ brf.drew).mono ?_
       rintro e Xa ⟨rfl,hba⟩
       obtain ⟨⟨l0,l1,l2,l3,l4,l5⟩,t0,t1,t2⟩:=HCV.o Xa hba)
    | (go_at_call 130;with_reducible refine (HOV.o _ hba).mono ?_
       rintro e Xb ⟨rfl,hbb⟩
       obtain ⟨⟨l0,l1,l2,l3,l4,l5⟩,t0,t1,t2⟩:=HCV.o Xb hbb))
 obtain ⟨X5,hX5⟩:=eqx (Xb.setCell ⟨X1.heap.size,2,none⟩ (qI (D.tdiv 4)));have kb:=(HKV.o Xb hbb).1;have B5:qY U X5:=by rw [hX5];exact aG (HKV.o Xb hbb).2 (aC _ X1.heap.size 2 _) (fun j hj=>by omega) (HKV.o Xb hbb).2.size
 have k5:Blk X5 X1.heap.size (qT C.md C.bk (D.tdiv 4)) 58:=by rw [hX5];exact kb.set 2 _
 have hf2:=kb.frozen 2
 have HC5:=zh (fun (X:qw) (hX:qY X5 X)=>show X.cell? (qR G 0)=some (qS M.ma M.mn M.mc)/\(X.cell? (qR X1.heap.size 0)=some (qI C.md)/\X.cell? (qR X1.heap.size 1)=some (qI C.bk)/\X.cell? (qR X1.heap.size 2)=some (qI (D.tdiv 4)))/\Blk X w.heap.size (qT 0 0 0) 58/\qY U X from by
  have b:=B5.trans (hX.mono B5.size);obtain ⟨q1,_,q2⟩:=HC.o X b
  exact ⟨q1,⟨(k5.bw hX).cell 0,(k5.bw hX).cell 1,(k5.bw hX).cell 2⟩,q2,b⟩)
 have HTV:=zh (fun (X:qw) (hX:qY X5 X)=>(HTK.o X (B5.trans (hX.mono B5.size))).mono (fun e w' he=>show e=.returned (.bool (decide (tgk C.ps C.md C.bk (D.tdiv 4))))/\qY X5 w' from ⟨he.1,hX.trans (he.2.mono hX.size)⟩));have HX5:=zh hX5;clear HCV HKV HSV HOV hba hbb kb B5 k5 HC HTK l0 l1 l2 l3 l4 l5 HV hX5;go_wp2_with (rw [<- HX5.o])
 clear HX5 hf2 t0 t1 t2;obtain ⟨q0,⟨t0,t1,t2⟩,KR,_⟩:=HC5.o X5 brf;obtain ⟨r0,r1,r2,rf⟩:=KR.three;by_cases c1:D.tmod 4=0
 .have hc:(D.tmod 4==0)=true:=by simp [c1]
  have HRR:=zh (show decide (tgk C.ps C.md C.bk (D.tdiv 4))=r from by
   have h:=HAT.o;cases r
   .exact xS fun e=>absurd (h.1 ⟨c1,e⟩) (by decide)
   .exact xR (h.2 rfl).2)
  rw [HRR.o] at HTV;clear c1
  go_region_held3 (fun w'=>w'.cell? (qR G 0)=some (qS M.ma M.mn M.mc)/\w'.cell? (qR X1.heap.size 0)=some (qI C.md)/\w'.cell? (qR X1.heap.size 1)=some (qI C.bk)/\w'.cell? (qR X1.heap.size 2)=some (qI (D.tdiv 4))) (go_keep)
   (first
     | (go_at_call 126;first
         | with_reducible refine (HTV.o _ brf).mono ?_
         | with_reducible refine (HTV.o _ brf.drew).mono ?_
        rintro e X6 ⟨rfl,hb6⟩;obtain ⟨q0,⟨t0,t1,t2⟩,KR,B6⟩:=HC5.o X6 hb6
        obtain ⟨r0,r1,r2,rf⟩:=KR.three))
  have b6:=HBU.o.trans (B6.mono HBU.o.size);have HF:Zh (qY w (((X6.setCell (qR w.heap.size 0) (qI C.md)).setCell (qR w.heap.size 1) (qI C.bk)).setCell (qR w.heap.size 2) (qI (D.tdiv 4)))):=((b6.setCell (by dsimp only;omega) _).setCell (by dsimp only;omega) _).setCell (by dsimp only;omega) _;clear b6 B6;go_wp2;exact bodyPost_ret (v:=.tuple #[.agg (qT C.md C.bk (D.tdiv 4)),.bool r]) (by simp [results,results133,go_sem,r0,r1,r2]) rfl ⟨⟨_,rfl,HDV.o⟩,HF.o⟩
 .have hc:(D.tmod 4==0)=false:=by simp [c1]
  have HRR:=zh (show r=false from by
   have h:=HAT.o;cases r
   .rfl
   .exact absurd (h.2 rfl).1 c1)
  clear c1;refine wp_region_held_drew (S:=(fun w'=>w'.cell? (qR X1.heap.size 0)=some (qI C.md)/\w'.cell? (qR X1.heap.size 1)=some (qI C.bk)/\w'.cell? (qR X1.heap.size 2)=some (qI (D.tdiv 4)))) (by kernel_rfl) ?_ (fun hHeld=>?_)
  .go_keep
  refine tkV 0 ?_ rfl ?_ ?_;rotate_left
  ·(intro w hSw;(try dsimp only at hSw);go_simp;try with_reducible rfl)
  try simp only [yD,yE,yF,Act.put,yA,yB,yC]
  refine tkV 1 ?_ rfl ?_ ?_;rotate_left
  ·(intro w hSw;(try dsimp only at hSw);go_simp;try with_reducible rfl)
  try simp only [yD,yE,yF,Act.put,yA,yB,yC]
  refine tkV 2 ?_ rfl ?_ ?_;rotate_left
  ·(intro w hSw;(try dsimp only at hSw);go_simp;try with_reducible rfl)
  try simp only [yD,yE,yF,Act.put,yA,yB,yC]
  refine tkV 3 ?_ rfl ?_ ?_;rotate_left
  ·(intro w hSw;(try dsimp only at hSw);go_simp;try with_reducible rfl)
  try simp only [yD,yE,yF,Act.put,yA,yB,yC]
  refine tkV 4 ?_ rfl ?_ ?_;rotate_left
  ·(intro w hSw;(try dsimp only at hSw);go_simp;try with_reducible rfl)
  try simp only [yD,yE,yF,Act.put,yA,yB,yC]
  refine tkS 5 rfl ?_;try simp only [yD,yE,yF,Act.put,yA,yB,yC]
  refine tkS 6 rfl ?_;try simp only [yD,yE,yF,Act.put,yA,yB,yC]
  refine tkS 7 rfl ?_;try simp only [yD,yE,yF,Act.put,yA,yB,yC]
  refine tkS 8 rfl ?_;try simp only [yD,yE,yF,Act.put,yA,yB,yC]
  refine tkS 9 rfl ?_;try simp only [yD,yE,yF,Act.put,yA,yB,yC]
  refine tkS 10 rfl ?_;try simp only [yD,yE,yF,Act.put,yA,yB,yC]
  refine tkS 11 rfl ?_;try simp only [yD,yE,yF,Act.put,yA,yB,yC]
  refine tkV 12 ?_ rfl ?_ ?_;rotate_left
  ·(intro w hSw;(try dsimp only at hSw);go_simp;try with_reducible rfl)
  try simp only [yD,yE,yF,Act.put,yA,yB,yC]
  refine wpAnyH_ready (rs:=[13]) (by kernel_rfl) (by simp) (AllReadyH.cons rfl (fun K hK=>?_) AllReadyH.nil);go_simp;refine hK.out _ _ ?_ (fun hHeld=>?_)
  .go_keep
  clear hK K;try simp only [yD,yE,yF,Act.put,yA,yB,yC]
  refine wpAnyH_ready (rs:=[14]) (by kernel_rfl) (by simp) (AllReadyH.cons rfl (fun K hK=>?_) AllReadyH.nil);go_simp;refine hK.out _ _ ?_ (fun hHeld=>?_)
  .go_keep
  clear hK K;try simp only [yD,yE,yF,Act.put,yA,yB,yC]
  refine wpAnyH_done (by kernel_rfl) ?_ _;have b6:=(HBU.o.trans ((HC5.o X5 brf).2.2.2.mono HBU.o.size)).drew;have HF:Zh (qY w (((X5.drew.setCell (qR w.heap.size 0) (qI C.md)).setCell (qR w.heap.size 1) (qI C.bk)).setCell (qR w.heap.size 2) (qI (D.tdiv 4)))):=((b6.setCell (by dsimp only;omega) _).setCell (by dsimp only;omega) _).setCell (by dsimp only;omega) _;clear b6;go_wp2;exact bodyPost_ret (v:=.tuple #[.agg (qT C.md C.bk (D.tdiv 4)),.bool false]) (by simp [results,results133,go_sem,r0,r1,r2]) rfl ⟨⟨_,by rw [HRR.o],HDV.o⟩,HF.o⟩
