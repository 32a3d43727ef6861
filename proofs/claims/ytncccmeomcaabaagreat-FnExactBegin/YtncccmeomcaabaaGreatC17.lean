import Derived.ChangeOld
import Derived.OpenShut
import Derived.ProofKit
import Derived.ShutString
import Derived.Test.YtncccmeomcaabaaGreatC12
import Derived.Test.YtncccmeomcaabaaGreatC13
set_option linter.all false
set_option maxHeartbeats 64000000
namespace Go.Proofs.YtncccmeomcaabaaGreat
open Go.RowKit Classical
set_option maxRecDepth 100000
variable {L:Lay}{T cw:Int}{i k:Nat}{ps:List PMod}{xs:List SlT}
theorem aK4 {s c k d:Int}(h:lkc ps s c k d=0):((lkL ps s c k d).slots.length:Int)=s/\(1<=c/\c<=64):=by
 have e:lkL ps s c k d=lay ps s c k:=by unfold lkL;rw [if_pos h]
 have h1:=(eQ.1 h).1;unfold cfo at h1;simp at h1;have hl:(lay ps s c k).slots.length=s.toNat:=by simp [lay]
 rw [e,hl];exact ⟨by omega,h1.2.2.1,h1.2.2.2.1⟩
theorem nA {P:Prop}{w w':qw}{e:Ending}(h:Yn P w e w')(b:Bool)(hb:b=true ↔ P):e=.returned (.bool b)/\qY w w':=by
 obtain ⟨r,he,hr,hB⟩:=h;have:r=b:=by rw [xJ,hr,hb]
 exact ⟨by rw [he,this],hB⟩
theorem aJs {cs:Int}{rz:qi}(hk:k<xs.length)(h:¬ nF ps L cw T rz xs k):¬ cW ps L cs cw T rz xs:=fun f=>h (f.2 k hk)
theorem aJr {rz:qi}(hF:∀ i,i<k->nF ps L cw T rz xs i)(h:nF ps L cw T rz xs k):∀ i,i<k+1->nF ps L cw T rz xs i:=fun i hi=>by
 by_cases e:i=k
 .rw [e];exact h
 .exact hF i (by omega)
theorem aCi (M:Mn)(L:Lay)(a0:qO)(c0:Nat)(xs:List PB)(a2:qO)(c2:Nat)(a5:qO)(c5:Nat)(ts:List TB)(w:qw)(h:MnD w M)(hL:LyT w L a0 c0 xs a2 c2 a5 c5 ts)(eL:L=M.L)(hk:lkc (aE M.ms) M.cs M.cw M.ck M.cd=0)(hr:(M.rn:Int)=L.ram):
 qC 158 #[.agg (qA M),.agg (qJ L a0 xs c0 a2 c2 a5 ts c5)] w (Yn (cW (aE M.ms) L M.cs M.cw M.tn M.rz M.lz) w):=by
 obtain ⟨hsl,w0,w1⟩:=aK4 hk;have eL':L=lkL (aE M.ms) M.cs M.cw M.ck M.cd:=eL;rw [<- eL'] at hsl;have hl:=h.l.1;have hmx:=h.l.2.1;unfold maxLen at hmx;obtain ⟨U,hU,bU,kU⟩:=nwb w (qA M) 43;obtain ⟨V,hV,bV,kV⟩:=nwb U (qJ L a0 xs c0 a2 c2 a5 ts c5) 71;have BV:=bU.trans (bV.mono bU.size);have kU':=kU.bw bV;have HDV:=zh (h.bw BV);have HSV:=zh (hL.s.bw BV);have HU:=zh hU;have HV:=zh hV;have HB:=zh BV;have HC:=zh (fun (X:qw) (hX:qY V X)=>xA (kU'.bw hX) (kV.bw hX));have y1:=kU'.e1;have y12:=kU'.e12;have HRE:=zh (Below.refl V.heap.size V);have HEQ:=zh (xA eL' (xA hsl (xA hr hk)));clear hU hV bU bV kU kU' kV BV h hL eL eL' hsl hr hk;by_cases c0':¬ (M.ln:Int)=M.cs
 .have HN:Zh (¬ cW (aE M.ms) L M.cs M.cw M.tn M.rz M.lz):=fun f=>c0' (by have:=f.1;omega);have c0'':((M.ln:Int) !=M.cs)=true:=by simp [c0']
  clear c0';go_enter Tryz.func158,Tryz.ntmps158
  go_wp2_with (first|rw [<- HU.o]|rw [<- HV.o])
  go_ret;exact cV HN.o HB.o
 replace c0':(M.ln:Int)=M.cs:=xZ.1 c0';have c0'':((M.ln:Int) !=M.cs)=false:=by simp [c0']
 have HCS:=zh c0';clear c0';by_cases cn:M.ln=0
 .have HY:Zh (cW (aE M.ms) L M.cs M.cw M.tn M.rz M.lz):=⟨by have:=HCS.o;omega,fun i hi=>absurd hi (by omega)⟩;have HCN:=zh cn;clear cn;go_enter Tryz.func158,Tryz.ntmps158
  go_wp2_with (first|rw [<- HU.o]|rw [<- HV.o])
  go_loopw [17] (fun i wr=>∃ k:Nat,i=qI k/\qY V wr) (fun i _=>0)
  .exact ⟨0,rfl,HRE.o⟩
  .obtain ⟨k,rfl,hB⟩:=hrel;have hlt:¬ ((k:Int)<(M.ln:Int)):=by have:=HCN.o;omega
   have HB2:=zh hB;clear hB;go_wp2;go_ret;exact pZ HY.o (HB.o.trans (HB2.o.mono HB.o.size))
 obtain ⟨g,f,hg⟩:∃ g f,M.la=some ⟨g,f,none⟩:=by
  obtain ⟨g,f,hg,_⟩:=HDV.o.l.2.2.1 cn;exact ⟨g,f,hg⟩
 obtain ⟨eL',hsl,hr,hk⟩:=HEQ.o;have HQ:=zh (fun (wr:qw) (hB:qY V wr) (k:Nat) (hk:k<M.ln)=>(HDV.o.l.bw hB).at k hk _ _ _ _ rfl);have HSO:=zh (fun (x0:Bool) (x1 x2 x3:Int) (b:Bool) (hb:b=true ↔ slk (aE M.ms) M.tn (x0,x1,x2,x3)) (X:qw) (hX:qY V X)=>(aEb M x0 x1 x2 x3 X (HDV.o.bw hX)).mono (fun e w' he=>show e=.returned (.bool b)/\qY X w' from nA he b hb));have HAL:=zh (fun (k:Nat) (hk:k<M.ln) (b:Bool) (hb:b=true ↔ aln M.lz k) (X:qw) (hX:qY V X)=>(aDi M.la M.ln M.lc k M.lz X (HDV.o.l.bw hX) hk).mono (fun e w' he=>show e=.returned (.bool b)/\qY X w' from nA he b hb));have HSB:=zh (fun (k:Nat) (hi:k<L.slots.length) (X:qw) (hX:qY V X)=>(vU M L a0 c0 xs a2 c2 a5 c5 ts k X (HDV.o.bw hX) (HSV.o.bw hX) hi w0 w1 (by have:=(sG hk (by rw [<- eL'];exact hi)).1;rw [eL'];exact this) (by have:=(sG hk (by rw [<- eL'];exact hi)).2.1;rw [<- eL'] at this;omega) (by have:=(sG hk (by rw [<- eL'];exact hi)).2.2.1;rw [<- eL'] at this;omega)).mono (fun e w' he=>show ∃ a c,e=.returned (qS a (slz M.cw) c)/\BS w' a (slz M.cw) c (slb M.rz L M.cw k)/\qY X w' from he))
 have HBB:=zh (fun (x0:Bool) (x1 x2 x3:Int) (hp:0<=pcq (aE M.ms) x1 x2) (hb:0<=x2) (X:qw) (hX:qY V X)=>(wX M x0 x1 x2 x3 X (HDV.o.bw hX) hk (by have:=HCS.o;omega) hp hb).mono (fun e w' he=>show ∃ g,e=.returned (qS (qP g) (slz M.cw) (slz M.cw))/\BS w' (qP g) (slz M.cw) (slz M.cw) (bkb (aE M.ms) M.cw x1 x2)/\qY X w' from by
  obtain ⟨g,h1,h2,h3⟩:=he
  exact ⟨g,h1,h2.bs,h3⟩))
 try unfold qA at *
 try unfold qL at *
 rw [hg] at HC HSO HAL HSB HBB y12 HU HQ ⊢;have HSN:=zh (show L.slots.length=M.ln by have:=HCS.o;omega);clear cn hg HDV HSV hk eL' hsl hr HEQ;go_enter Tryz.func158,Tryz.ntmps158
 go_wp2_with (first|rw [<- HU.o]|rw [<- HV.o])
 clear y1 y12 HU HV;go_loopw [17] (fun i wr=>∃ k:Nat,k<=M.ln/\i=qI k/\(∀ i,i<k->nF (aE M.ms) L M.cw M.tn M.rz M.lz i)/\qY V wr) (qf M.ln)
 .exact ⟨0,xC _,rfl,fun i hi=>absurd hi (by omega),HRE.o⟩
 .obtain ⟨k,hk,rfl,hF,hB⟩:=hrel;by_cases hlt:k<M.ln
  .have hlt':(k:Int)<(M.ln:Int):=by omega
   obtain ⟨g',f',hg',q0,q1,q2,q3⟩:=HQ.o wr hB k hlt;simp at hg';obtain ⟨rfl,rfl⟩:=hg';have HNO:=zh (fun (q:¬ nF (aE M.ms) L M.cw M.tn M.rz M.lz k)=>aJs (cs:=M.cs) (show k<M.lz.length by omega) q);have HST:=zh (fun (q:nF (aE M.ms) L M.cw M.tn M.rz M.lz k)=>aJr hF q);have HOK:Zh (nF (aE M.ms) L M.cw M.tn M.rz M.lz k ↔ slk (aE M.ms) M.tn (M.lz.getD k zSl)/\aln M.lz k/\((M.lz.getD k zSl).1=true->slb M.rz L M.cw k=bkb (aE M.ms) M.cw (M.lz.getD k zSl).2.1 (M.lz.getD k zSl).2.2.1)):=Iff.rfl;generalize M.lz.getD k zSl=x at *;obtain ⟨x0,x1,x2,x3⟩:=x;dsimp only at q0 q1 q2 q3 HOK;obtain ⟨W,hW,bW,kW⟩:=nwb wr #[.bool x0,qI x1,qI x2,qI x3] 142;have BW:=hB.trans (bW.mono hB.size);have HBW:=zh BW;have HW:=zh hW;have HS:=zh (fun (X:qw) (hX:qY W X)=>show Blk X w.heap.size (qX M M.ma M.mn M.mc M.ka M.kn M.kc M.fa M.fn M.fc M.ra M.rn M.rc M.oa M.on M.oc (some (qR g f)) M.ln M.lc M.ha M.hn M.hc) 43/\Blk X U.heap.size (qJ L a0 xs c0 a2 c2 a5 ts c5) 71/\Blk X wr.heap.size #[.bool x0,qI x1,qI x2,qI x3] 142 from ⟨(HC.o X (BW.trans (hX.mono BW.size))).1,(HC.o X (BW.trans (hX.mono BW.size))).2,kW.bw hX⟩);have HVW:=zh (fun (X:qw) (hX:qY W X)=>BW.trans (hX.mono BW.size));have HD:=zh ((Below.refl W.heap.size W).drew);clear hW bW kW BW hB hF HQ HC HRE
   obtain ⟨b1,hb1⟩:∃ b:Bool,b=true ↔ slk (aE M.ms) M.tn (x0,x1,x2,x3):=by
    by_cases c:slk (aE M.ms) M.tn (x0,x1,x2,x3)
    .exact ⟨true,by simp [c]⟩
    .exact ⟨false,by simp [c]⟩
   obtain ⟨b2,hb2⟩:∃ b:Bool,b=true ↔ aln M.lz k:=by
    by_cases c:aln M.lz k
    .exact ⟨true,by simp [c]⟩
    .exact ⟨false,by simp [c]⟩
   obtain ⟨b3,hb3⟩:∃ b:Bool,b=decide (slb M.rz L M.cw k=bkb (aE M.ms) M.cw x1 x2):=⟨_,rfl⟩;have HDE:=zh hb3.symm;have HSO1:=zh (HSO.o x0 x1 x2 x3 b1 hb1);have HAL1:=zh (HAL.o k hlt b2 hb2);have HSB1:=zh (HSB.o k (by rw [HSN.o];exact hlt));have HNA:=zh (fun (e:b1=false)=>HNO.o (fun q=>by have:=hb1.2 (HOK.o.1 q).1;rw [e] at this;cases this));have HNB:=zh (fun (e:b2=false)=>HNO.o (fun q=>by have:=hb2.2 (HOK.o.1 q).2.1;rw [e] at this;cases this));have HNC:=zh (fun (e1:b1=true) (e2:b2=true) (e3:x0=false)=>HST.o (HOK.o.2 ⟨hb1.1 e1,hb2.1 e2,fun q=>by rw [e3] at q;cases q⟩));have HND:=zh (fun (e0:x0=true) (e:b3=false)=>HNO.o (fun q=>by have:=(HOK.o.1 q).2.2 e0;rw [e] at hb3;exact absurd this (of_decide_eq_false hb3.symm)));have HNE:=zh (fun (e1:b1=true) (e2:b2=true) (e3:b3=true)=>HST.o (HOK.o.2 ⟨hb1.1 e1,hb2.1 e2,fun _=>by rw [e3] at hb3;exact of_decide_eq_true hb3.symm⟩))
   have HPP:=zh (fun (e1:b1=true) (e0:x0=true)=>show 0<=pcq (aE M.ms) x1 x2/\0<=x2 from by
    have h1:=hb1.1 e1;rw [e0] at h1;obtain ⟨p2,pq,_⟩:=aGi.1 h1
    exact ⟨pq,p2⟩)
   clear hb1 hb2 hb3 HNO HST HOK HSO HAL HSB;go_wp2_with (rw [<- HW.o])
   refine wp_region_held_drew (S:=(fun X=>Blk X w.heap.size (qX M M.ma M.mn M.mc M.ka M.kn M.kc M.fa M.fn M.fc M.ra M.rn M.rc M.oa M.on M.oc (some (qR g f)) M.ln M.lc M.ha M.hn M.hc) 43/\Blk X U.heap.size (qJ L a0 xs c0 a2 c2 a5 ts c5) 71/\Blk X wr.heap.size #[.bool x0,qI x1,qI x2,qI x3] 142)) (by kernel_rfl) ?_ (fun hHeld=>?_)
   .exact HS.o _ HD.o
   refine tkV 0 _ rfl (fun w hSw=>pS hSw.1 rfl) ?_;try simp only [yD,yE,yF,Act.put,yA,yB,yC]
   refine tkV 1 _ rfl (fun w hSw=>aOt hSw.2.2 rfl) ?_;try simp only [yD,yE,yF,Act.put,yA,yB,yC]
   refine wpAnyH_ready (rs:=[2]) (by kernel_rfl) (by simp) (AllReadyH.cons rfl (fun K hK=>?_) AllReadyH.nil);go_simp;refine (HSO1.o _ (HVW.o _ HD.o)).mono ?_;rintro e w1 ⟨rfl,hb⟩;have HB1:=zh (HD.o.trans (hb.mono HD.o.size));clear hb;try go_wp2_with fail
   refine hK.out _ _ ?_ (fun hHeld=>?_)
   .exact HS.o _ HB1.o
   clear hK K;try simp only [yD,yE,yF,Act.put,yA,yB,yC]
   cases b1
   focus
    have HN:=zh (HNA.o (by simp));refine tkV 3 ?_ rfl ?_ ?_;rotate_left
    ·(intro w hSw;(try dsimp only at hSw);go_simp;try with_reducible rfl)
    try simp only [yD,yE,yF,Act.put,yA,yB,yC]
    refine tkV 4 ?_ rfl ?_ ?_;rotate_left
    ·(intro w hSw;(try dsimp only at hSw);go_simp;try with_reducible rfl)
    try simp only [yD,yE,yF,Act.put,yA,yB,yC]
    refine tkS 5 rfl ?_;try simp only [yD,yE,yF,Act.put,yA,yB,yC]
    refine tkS 6 rfl ?_;try simp only [yD,yE,yF,Act.put,yA,yB,yC]
    refine tkS 7 rfl ?_;try simp only [yD,yE,yF,Act.put,yA,yB,yC]
    refine tkS 8 rfl ?_;try simp only [yD,yE,yF,Act.put,yA,yB,yC]
    refine tkS 9 rfl ?_;try simp only [yD,yE,yF,Act.put,yA,yB,yC]
    refine tkV 10 ?_ rfl ?_ ?_;rotate_left
    ·(intro w hSw;(try dsimp only at hSw);go_simp;try with_reducible rfl)
    try simp only [yD,yE,yF,Act.put,yA,yB,yC]
    refine tkV 11 ?_ rfl ?_ ?_;rotate_left
    ·(intro w hSw;(try dsimp only at hSw);go_simp;try with_reducible rfl)
    try simp only [yD,yE,yF,Act.put,yA,yB,yC]
    have HBx:=zh HB1.o
   rotate_left;refine tkV 3 ?_ rfl ?_ ?_;rotate_left
   ·(intro w hSw;(try dsimp only at hSw);go_simp;try with_reducible rfl)
   try simp only [yD,yE,yF,Act.put,yA,yB,yC]
   refine tkV 4 ?_ rfl ?_ ?_;rotate_left
   ·(intro w hSw;(try dsimp only at hSw);go_simp;try with_reducible rfl)
   try simp only [yD,yE,yF,Act.put,yA,yB,yC]
   refine tkV 5 ?_ rfl ?_ ?_;rotate_left
   ·(intro w hSw;(try dsimp only at hSw);go_simp;try with_reducible rfl)
   try simp only [yD,yE,yF,Act.put,yA,yB,yC]
   refine tkV 6 _ rfl (fun w hSw=>aOs (hSw.1.cell 12) rfl) ?_;try simp only [yD,yE,yF,Act.put,yA,yB,yC]
   refine tkV 7 ?_ rfl ?_ ?_;rotate_left
   ·(intro w hSw;(try dsimp only at hSw);go_simp;try with_reducible rfl)
   try simp only [yD,yE,yF,Act.put,yA,yB,yC]
   refine wpAnyH_ready (rs:=[8]) (by kernel_rfl) (by simp) (AllReadyH.cons rfl (fun K hK=>?_) AllReadyH.nil);go_simp;refine (HAL1.o _ (HVW.o _ HB1.o)).mono ?_;rintro e w2 ⟨rfl,hb⟩;have HB2:=zh (HB1.o.trans (hb.mono HB1.o.size));clear hb;try go_wp2_with fail
   refine hK.out _ _ ?_ (fun hHeld=>?_)
   .exact HS.o _ HB2.o
   clear hK K;try simp only [yD,yE,yF,Act.put,yA,yB,yC]
   cases b2
   focus
    have HN:=zh (HNB.o (by simp));refine tkV 9 ?_ rfl ?_ ?_;rotate_left
    ·(intro w hSw;(try dsimp only at hSw);go_simp;try with_reducible rfl)
    try simp only [yD,yE,yF,Act.put,yA,yB,yC]
    refine tkV 10 ?_ rfl ?_ ?_;rotate_left
    ·(intro w hSw;(try dsimp only at hSw);go_simp;try with_reducible rfl)
    try simp only [yD,yE,yF,Act.put,yA,yB,yC]
    refine tkV 11 ?_ rfl ?_ ?_;rotate_left
    ·(intro w hSw;(try dsimp only at hSw);go_simp;try with_reducible rfl)
    try simp only [yD,yE,yF,Act.put,yA,yB,yC]
    have HBx:=zh HB2.o
   rotate_left;refine tkV 9 ?_ rfl ?_ ?_;rotate_left
   ·(intro w hSw;(try dsimp only at hSw);go_simp;try with_reducible rfl)
   try simp only [yD,yE,yF,Act.put,yA,yB,yC]
   refine tkV 10 ?_ rfl ?_ ?_;rotate_left
   ·(intro w hSw;(try dsimp only at hSw);go_simp;try with_reducible rfl)
   try simp only [yD,yE,yF,Act.put,yA,yB,yC]
   refine tkV 11 ?_ rfl ?_ ?_;rotate_left
   ·(intro w hSw;(try dsimp only at hSw);go_simp;try with_reducible rfl)
   try simp only [yD,yE,yF,Act.put,yA,yB,yC]
   refine tkV 12 ?_ rfl ?_ ?_;rotate_left
   ·(intro w hSw;(try dsimp only at hSw);go_simp;try with_reducible rfl)
   try simp only [yD,yE,yF,Act.put,yA,yB,yC]
   refine tkV 13 _ rfl (fun w hSw=>aQq (hSw.2.2.cell 0) rfl) ?_;try simp only [yD,yE,yF,Act.put,yA,yB,yC]
   refine tkV 14 ?_ rfl ?_ ?_;rotate_left
   ·(intro w hSw;(try dsimp only at hSw);go_simp;try with_reducible rfl)
   try simp only [yD,yE,yF,Act.put,yA,yB,yC]
   cases x0
   focus
    have HN:=zh (HNC.o (by simp) (by simp) (by simp));refine tkS 15 rfl ?_;try simp only [yD,yE,yF,Act.put,yA,yB,yC]
    refine tkS 16 rfl ?_;try simp only [yD,yE,yF,Act.put,yA,yB,yC]
    refine tkS 17 rfl ?_;try simp only [yD,yE,yF,Act.put,yA,yB,yC]
    refine tkS 18 rfl ?_;try simp only [yD,yE,yF,Act.put,yA,yB,yC]
    refine tkS 19 rfl ?_;try simp only [yD,yE,yF,Act.put,yA,yB,yC]
    refine tkS 20 rfl ?_;try simp only [yD,yE,yF,Act.put,yA,yB,yC]
    refine tkS 21 rfl ?_;try simp only [yD,yE,yF,Act.put,yA,yB,yC]
    refine tkS 22 rfl ?_;try simp only [yD,yE,yF,Act.put,yA,yB,yC]
    refine tkS 23 rfl ?_;try simp only [yD,yE,yF,Act.put,yA,yB,yC]
    refine tkV 24 ?_ rfl ?_ ?_;rotate_left
    ·(intro w hSw;(try dsimp only at hSw);go_simp;try with_reducible rfl)
    try simp only [yD,yE,yF,Act.put,yA,yB,yC]
    refine tkV 25 ?_ rfl ?_ ?_;rotate_left
    ·(intro w hSw;(try dsimp only at hSw);go_simp;try with_reducible rfl)
    try simp only [yD,yE,yF,Act.put,yA,yB,yC]
    refine wpAnyH_done (by kernel_rfl) ?_ _;have HE:=zh (HVW.o _ HB2.o);clear HS HVW HD hHeld;go_wp2
    go_roundw
    .exact ⟨k+1,by omega,by go_num,HN.o,HE.o⟩
    .simp [qf,intOf];omega
   obtain ⟨pq,p2⟩:=HPP.o (by simp) (by simp);have HBB1:=zh (HBB.o true x1 x2 x3 pq p2);clear pq p2;refine tkV 15 _ rfl (fun w hSw=>pS hSw.1 rfl) ?_;try simp only [yD,yE,yF,Act.put,yA,yB,yC]
   refine tkV 16 _ rfl (fun w hSw=>aK5 hSw.2.1 rfl) ?_;try simp only [yD,yE,yF,Act.put,yA,yB,yC]
   refine tkV 17 ?_ rfl ?_ ?_;rotate_left
   ·(intro w hSw;(try dsimp only at hSw);go_simp;try with_reducible rfl)
   try simp only [yD,yE,yF,Act.put,yA,yB,yC]
   refine tkV 19 _ rfl (fun w hSw=>pS hSw.1 rfl) ?_;try simp only [yD,yE,yF,Act.put,yA,yB,yC]
   refine tkV 20 _ rfl (fun w hSw=>aOt hSw.2.2 rfl) ?_;try simp only [yD,yE,yF,Act.put,yA,yB,yC]
   refine wpAnyH_ready (rs:=[18]) (by kernel_rfl) (by simp) (AllReadyH.cons rfl (fun K hK=>?_) AllReadyH.nil);go_simp;refine (HSB1.o _ (HVW.o _ HB2.o)).mono ?_;rintro e w3 ⟨sa,sc,rfl,hs,hb⟩;have HB3:=zh (HB2.o.trans (hb.mono HB2.o.size));have HS3:=zh hs;clear hs;clear hb;try go_wp2_with fail
   refine hK.out _ _ ?_ (fun hHeld=>?_)
   .exact HS.o _ HB3.o
   clear hK K;try simp only [yD,yE,yF,Act.put,yA,yB,yC]
   refine wpAnyH_ready (rs:=[21]) (by kernel_rfl) (by simp) (AllReadyH.cons rfl (fun K hK=>?_) AllReadyH.nil);go_simp;refine (HBB1.o _ (HVW.o _ HB3.o)).mono ?_;rintro e w4 ⟨bg,rfl,hs,hb⟩;have HB4:=zh (HB3.o.trans (hb.mono HB3.o.size));have HBE:=zh (lK sa (qP bg) (slz M.cw) sc (slz M.cw) (slz M.cw) _ _ w4 (HS3.o.bw hb) hs);rw [HDE.o] at HBE;clear hs hb HS3;try go_wp2_with fail
   refine hK.out _ _ ?_ (fun hHeld=>?_)
   .exact HS.o _ HB4.o
   clear hK K;try simp only [yD,yE,yF,Act.put,yA,yB,yC]
   refine wpAnyH_ready (rs:=[22]) (by kernel_rfl) (by simp) (AllReadyH.cons rfl (fun K hK=>?_) AllReadyH.nil);go_simp;refine HBE.o.mono ?_;rintro e w5 ⟨rfl,rfl⟩;try go_wp2_with fail
   refine hK.out _ _ ?_ (fun hHeld=>?_)
   .exact HS.o _ HB4.o
   clear hK K;try simp only [yD,yE,yF,Act.put,yA,yB,yC]
   focus
    cases b3
    focus
     have HN:=zh (HND.o (by simp) (by simp))
    rotate_left
    focus
     have HN:=zh (HNE.o (by simp) (by simp) (by simp))
    all_goals
     refine tkV 23 ?_ rfl ?_ ?_;rotate_left
     ·(intro w hSw;(try dsimp only at hSw);go_simp;try with_reducible rfl)
     try simp only [yD,yE,yF,Act.put,yA,yB,yC]
     refine tkV 24 ?_ rfl ?_ ?_;rotate_left
     ·(intro w hSw;(try dsimp only at hSw);go_simp;try with_reducible rfl)
     try simp only [yD,yE,yF,Act.put,yA,yB,yC]
     refine tkV 25 ?_ rfl ?_ ?_;rotate_left
     ·(intro w hSw;(try dsimp only at hSw);go_simp;try with_reducible rfl)
     try simp only [yD,yE,yF,Act.put,yA,yB,yC]
     refine wpAnyH_done (by kernel_rfl) ?_ _;have HE:=zh (HVW.o _ HB4.o);clear HS HVW HD hHeld;go_wp2
    focus
     go_roundw
     .exact ⟨k+1,by omega,by go_num,HN.o,HE.o⟩
     .simp [qf,intOf];omega
    go_ret;exact cV HN.o (HB.o.trans (HE.o.mono HB.o.size))
   all_goals
    refine tkS 12 rfl ?_;try simp only [yD,yE,yF,Act.put,yA,yB,yC]
    refine tkS 13 rfl ?_;try simp only [yD,yE,yF,Act.put,yA,yB,yC]
    refine tkS 14 rfl ?_;try simp only [yD,yE,yF,Act.put,yA,yB,yC]
    refine tkS 15 rfl ?_;try simp only [yD,yE,yF,Act.put,yA,yB,yC]
    refine tkS 16 rfl ?_;try simp only [yD,yE,yF,Act.put,yA,yB,yC]
    refine tkS 17 rfl ?_;try simp only [yD,yE,yF,Act.put,yA,yB,yC]
    refine tkS 18 rfl ?_;try simp only [yD,yE,yF,Act.put,yA,yB,yC]
    refine tkS 19 rfl ?_;try simp only [yD,yE,yF,Act.put,yA,yB,yC]
    refine tkS 20 rfl ?_;try simp only [yD,yE,yF,Act.put,yA,yB,yC]
    refine tkS 21 rfl ?_;try simp only [yD,yE,yF,Act.put,yA,yB,yC]
    refine tkS 22 rfl ?_;try simp only [yD,yE,yF,Act.put,yA,yB,yC]
    refine tkS 23 rfl ?_;try simp only [yD,yE,yF,Act.put,yA,yB,yC]
    refine tkS 24 rfl ?_;try simp only [yD,yE,yF,Act.put,yA,yB,yC]
    refine tkV 25 ?_ rfl ?_ ?_;rotate_left
    ·(intro w hSw;(try dsimp only at hSw);go_simp;try with_reducible rfl)
    try simp only [yD,yE,yF,Act.put,yA,yB,yC]
    refine wpAnyH_done (by kernel_rfl) ?_ _;have HE:=zh (HVW.o _ HBx.o);clear HS HVW HD hHeld;go_wp2;go_ret;exact cV HN.o (HB.o.trans (HE.o.mono HB.o.size))
  .have HY:Zh (cW (aE M.ms) L M.cs M.cw M.tn M.rz M.lz):=⟨by have:=HCS.o;omega,fun i hi=>hF i (by omega)⟩;have HB2:=zh hB;clear hB hF;go_wp2;go_ret;exact pZ HY.o (HB.o.trans (HB2.o.mono HB.o.size))
theorem fX (P:Prop):∃ b:Bool,b=true ↔ P:=by
 by_cases c:P
 .exact ⟨true,fun _=>c,fun _=>rfl⟩
 .exact ⟨false,fun h=>Bool.noConfusion h,fun h=>absurd h c⟩
theorem aQz (h:(xs.getD i zSl).1=false):aln xs i:=fun k _ q=>by have:=q.1;rw [h] at this;cases this
theorem aBd (M:Mn)(i:Nat)(w:qw)(h:MnD w M)(hi:i<M.ln):
 qC 147 #[.agg #[qS M.ma M.mn M.mc,qI M.cs,qI M.cw,qI M.ck,qI M.cd,qI M.pc,qS M.ka M.kn M.kc,qS M.fa M.fn M.fc,qS M.ra M.rn M.rc,qS M.oa M.on M.oc,qI M.md,qI M.bk,qS M.la M.ln M.lc,qS M.ha M.hn M.hc,qI M.tn],qI i] w (Yn (slk (aE M.ms) M.tn (M.lz.getD i zSl)/\aln M.lz i) w):=by
 have hl:=h.l.1;have hmx:=h.l.2.1;unfold maxLen at hmx;have hi':(i:Int)<(M.ln:Int):=by omega
 obtain ⟨U,hU,bU,kU⟩:=nwb w #[qS M.ma M.mn M.mc,qI M.cs,qI M.cw,qI M.ck,qI M.cd,qI M.pc,qS M.ka M.kn M.kc,qS M.fa M.fn M.fc,qS M.ra M.rn M.rc,qS M.oa M.on M.oc,qI M.md,qI M.bk,qS M.la M.ln M.lc,qS M.ha M.hn M.hc,qI M.tn] 43;have HLU:=zh (h.l.bw bU);have HMU:=zh (h.m.bw bU);have HPQ:=zh (dX h.m);have HNO0:=zh (fun (k:Nat) (hk:k<i) (q:cmn (M.lz.getD i zSl) (M.lz.getD k zSl))=>aMa hk q);have HST0:=zh (fun (k:Nat) (hF:∀ j,j<k->¬ cmn (M.lz.getD i zSl) (M.lz.getD j zSl)) (q:¬ cmn (M.lz.getD i zSl) (M.lz.getD k zSl))=>aL9 hF q);have HYES:Zh ((∀ j,j<i->¬ cmn (M.lz.getD i zSl) (M.lz.getD j zSl))->aln M.lz i):=fun q=>q;have HAF:=zh (fun q=>aQz (xs:=M.lz) (i:=i) q);clear h;generalize M.la=la at *;obtain ⟨g,f,rfl,q0,q1,q2,q3⟩:=HLU.o.at i hi _ _ _ _ rfl;generalize M.lz.getD i zSl=x at *;obtain ⟨x0,x1,x2,x3⟩:=x;dsimp only at q0 q1 q2 q3;obtain ⟨V,hV,bV,kV⟩:=nwb U #[.bool x0,qI x1,qI x2,qI x3] 142;have BV:=bU.trans (bV.mono bU.size);have kU':=kU.bw bV;have y12:=kU.e12;have HTH:=zh (gR M.ma M.mn M.mc M.ms x1 x2 V (HMU.o.s.bw bV));rw [HPQ.o x1 x2] at HTH
 have HC:=zh (fun (X:qw) (hX:qY V X)=>show (X.cell? (qR w.heap.size 0)=some (qS M.ma M.mn M.mc)/\X.cell? (qR w.heap.size 12)=some (qS (some (qR g f)) M.ln M.lc)/\X.cell? (qR w.heap.size 14)=some (qI M.tn))/\X.cell? (qR U.heap.size 0)=some (.bool x0)/\X.cell? (qR U.heap.size 1)=some (qI x1)/\X.cell? (qR U.heap.size 2)=some (qI x2)/\X.cell? (qR U.heap.size 3)=some (qI x3) from
  ⟨⟨(kU'.bw hX).cell 0,(kU'.bw hX).cell 12,(kU'.bw hX).cell 14⟩,(kV.bw hX).cell 0,(kV.bw hX).cell 1,(kV.bw hX).cell 2,(kV.bw hX).cell 3⟩)
 have HLV:=zh (HLU.o.bw bV);have HBB:=zh BV;have HU:=zh hU;have HV:=zh hV;clear hU hV bU bV kU kU' kV BV HLU HMU HPQ;obtain ⟨⟨p0,p12,p14⟩,s0,s1,s2,s3⟩:=HC.o V brf;cases x0 with
 | false=>
   have HAL:=zh (HAF.o rfl);rw [aOg];clear HTH HC HNO0 HST0 HYES HAF HLV p0 p12 p14;by_cases e1:x1=0
   .by_cases e2:x2=0
    .by_cases e3:x3=0
     .subst e1 e2 e3;go_enter Tryz.func147,Tryz.ntmps147
      go_wp2_with (rw [<- HU.o])
      go_ret;exact pZ ⟨rfl,HAL.o⟩ (by have:=HBB.o;rw [HV.o] at this;exact this)
     .have e3':(x3==0)=false:=by simp [e3]
      have HX:Zh (¬ (false,x1,x2,x3)=zSl):=fun q=>e3 (by unfold zSl at q;simp at q;exact q.2.2);subst e1 e2;clear e3;go_enter Tryz.func147,Tryz.ntmps147
      go_wp2_with (first|rw [<- HU.o]|rw [<- HV.o])
      go_ret;exact cV (fun q=>HX.o q.1) HBB.o
    .have e2':(x2==0)=false:=by simp [e2]
     have HX:Zh (¬ (false,x1,x2,x3)=zSl):=fun q=>e2 (by unfold zSl at q;simp at q;exact q.2.1);subst e1;clear e2;go_enter Tryz.func147,Tryz.ntmps147
     go_wp2_with (first|rw [<- HU.o]|rw [<- HV.o])
     go_ret;exact cV (fun q=>HX.o q.1) HBB.o
   .have e1':(x1==0)=false:=by simp [e1]
    have HX:Zh (¬ (false,x1,x2,x3)=zSl):=fun q=>e1 (by unfold zSl at q;simp at q;exact q.1);clear e1;go_enter Tryz.func147,Tryz.ntmps147
    go_wp2_with (first|rw [<- HU.o]|rw [<- HV.o])
    go_ret;exact cV (fun q=>HX.o q.1) HBB.o
 | true=>
   rw [aGi];clear HAF;by_cases c2:0<=pcq (aE M.ms) x1 x2
   .have HC2:=zh c2;rw [xR c2] at HTH;clear c2;go_enter Tryz.func147,Tryz.ntmps147
    go_wp2_with (first|rw [<- HU.o]|rw [<- HV.o])
    refine HTH.o.mono ?_;rintro e X1 ⟨rfl,hb1⟩;have HX1:=zh hb1;have HB1:=zh (HBB.o.trans (hb1.mono HBB.o.size));clear p0 p12 p14 s0 s1 s2 s3 q0 q1 q2 q3 y12;obtain ⟨⟨p0,p12,p14⟩,s0,s1,s2,s3⟩:=HC.o X1 hb1;clear hb1 HTH HU HV;by_cases c3:x2<0
    .go_wp2;go_ret;exact cV (fun q=>by have:=q.1.1;omega) HB1.o
    by_cases c4:x3<1
    .go_wp2;go_ret;exact cV (fun q=>by have:=q.1.2.2.1;omega) HB1.o
    by_cases c5:M.tn<x3
    .go_wp2;go_ret;exact cV (fun q=>by have:=q.1.2.2.2;omega) HB1.o
    have HSK:Zh (0<=x2/\0<=pcq (aE M.ms) x1 x2/\1<=x3/\x3<=M.tn):=⟨by omega,HC2.o,by omega,by omega⟩;go_wp2;clear p0 p12 p14 s0 s1 s2 s3;go_loopw [6] (fun j wr=>∃ k:Nat,k<=i/\j=qI k/\(∀ j,j<k->¬ cmn (true,x1,x2,x3) (M.lz.getD j zSl))/\qY V wr) (qf i)
    .exact ⟨0,xC _,rfl,fun j hj=>absurd hj (by omega),HX1.o⟩
    .obtain ⟨k,hk,rfl,hF,hB⟩:=hrel;by_cases hlt:k<i
     .have hlt':(k:Int)<(i:Int):=by omega
      have hkn:(k:Int)<(M.ln:Int):=by omega
      obtain ⟨g',f',hg',q0,q1,q2,q3⟩:=(HLV.o.bw hB).at k (by omega) _ _ _ _ rfl;simp at hg';obtain ⟨rfl,rfl⟩:=hg';obtain ⟨⟨r0,r12,r14⟩,_⟩:=HC.o wr hB;have HNO:=zh (HNO0.o k hlt);have HST:=zh (HST0.o k hF);generalize M.lz.getD k zSl=y at *;obtain ⟨o0,o1,o2,o3⟩:=y;dsimp only at q0 q1 q2 q3;obtain ⟨W,hW,bW,kW⟩:=nwb wr #[.bool o0,qI o1,qI o2,qI o3] 142;have BW:=hB.trans (bW.mono hB.size);have HBW:=zh BW;have HW:=zh hW;obtain ⟨_,t0,t1,t2,t3⟩:=HC.o W BW;obtain ⟨p0,p1,p2,p3⟩:=kW.z4;clear hW bW kW BW hB hF HNO0 HST0 HYES HLV;cases o0 with
      | false=>
        have HN:=zh (HST.o (fun q=>by have:=q.2.1;cases this));clear HNO HST;go_wp2_with (rw [<- HW.o])
        go_roundw
        .exact ⟨k+1,by omega,by go_num,HN.o,HBW.o⟩
        .simp [qf,intOf];omega
      | true=>
        by_cases c3:o3=x3
        .subst c3;have HN:=zh (HNO.o ⟨rfl,rfl,.inl rfl⟩);clear HNO HST;go_wp2_with (rw [<- HW.o])
         go_ret;exact cV (fun q=>HN.o q.2) (HBB.o.trans (HBW.o.mono HBB.o.size))
        .have c3':(o3==x3)=false:=by simp [c3]
         by_cases c1:o1=x1
         .by_cases c2:o2=x2
          .have HN:=zh (HNO.o ⟨rfl,rfl,.inr ⟨c1,c2⟩⟩);subst c1 c2;clear HNO HST c3;go_wp2_with (rw [<- HW.o])
           go_ret;exact cV (fun q=>HN.o q.2) (HBB.o.trans (HBW.o.mono HBB.o.size))
          .have c2':(o2==x2)=false:=by simp [c2]
           have HN:=zh (HST.o (fun q=>by rcases q.2.2 with e|e;exact c3 e;exact c2 e.2));subst c1;clear HNO HST c3 c2;go_wp2_with (rw [<- HW.o])
           go_roundw
           .exact ⟨k+1,by omega,by go_num,HN.o,HBW.o⟩
           .simp [qf,intOf];omega
         .have c1':(o1==x1)=false:=by simp [c1]
          have HN:=zh (HST.o (fun q=>by rcases q.2.2 with e|e;exact c3 e;exact c1 e.1));clear HNO HST c3 c1;go_wp2_with (rw [<- HW.o])
          go_roundw
          .exact ⟨k+1,by omega,by go_num,HN.o,HBW.o⟩
          .simp [qf,intOf];omega
     .have HY:=zh (HYES.o (fun j hj=>hF j (by omega)));have HB:=zh hB;clear hB hF;go_wp2;go_ret;exact pZ ⟨HSK.o,HY.o⟩ (HBB.o.trans (HB.o.mono HBB.o.size))
   .have HC2:=zh c2;rw [xS c2] at HTH;clear c2;go_enter Tryz.func147,Tryz.ntmps147
    go_wp2_with (first|rw [<- HU.o]|rw [<- HV.o])
    refine HTH.o.mono ?_;rintro e X1 ⟨rfl,hb1⟩;have HB1:=zh (HBB.o.trans (hb1.mono HBB.o.size));clear hb1 HTH HC HU HV;go_wp2;go_ret;exact cV (fun q=>by have h1:=HC2.o;have h2:=q.1.2.1;omega) HB1.o
theorem vN (xs ys:qi)(k:Nat)(h:xs.take k=ys.take k)(hx:k<xs.length)(hy:k<ys.length)(he:xs.getD k 0=ys.getD k 0):xs.take (k+1)=ys.take (k+1):=by
 rw [List.take_succ_eq_append_getElem hx,List.take_succ_eq_append_getElem hy,h];simp [xB,hx,hy] at he;rw [he]
theorem pT (a a':qO)(n cap n' cap':Nat)(xs ys:qi)(w:qw)(h:BS w a n cap xs)(h':BS w a' n' cap' ys):
 qC 79 #[qS a n cap,qS a' n' cap'] w (qB w (.bool (decide (xs=ys)))):=by
 obtain ⟨hl,hmx,hr,hc,_⟩:=h;obtain ⟨hl',hmx',hr',hc',_⟩:=h';unfold maxLen at hmx hmx';by_cases hn:n=n'
 .subst hn;have hne:((n:Int) !=(n:Int))=false:=by simp
  by_cases hn0:n=0
  .subst hn0;obtain rfl:xs=[]:=xE hl;obtain rfl:ys=[]:=xE hl';clear hc hc';go_enter Tryz.func79,Tryz.ntmps79
   go_wp2;go_loop [5] (fun i=>i=qI 0) (fun _=>0)
   .rfl
   .obtain rfl:=hrel;go_wp2;go_ret;exact ⟨rfl,brf⟩
  .obtain ⟨b,off,rfl,hd⟩:=hc hn0;obtain ⟨b',off',rfl,hd'⟩:=hc' hn0;clear hc hc';go_enter Tryz.func79,Tryz.ntmps79
   go_wp2;go_loopw [5] (fun i wr=>∃ k:Nat,k<=n/\i=qI k/\xs.take k=ys.take k/\qY w wr) (qf n)
   .exact ⟨0,xC _,rfl,by simp,brf⟩
   .obtain ⟨k,hk,rfl,hT,hB⟩:=hrel;by_cases hlt:k<n
    .have hlt':(k:Int)<(n:Int):=by omega
     have hck:wr.cell? (qR b (off+k))=some (.int .u8 (xs.getD k 0)):=(hB.cell (xD w _ (hd k hlt))).trans (hd k hlt);have hck':wr.cell? (qR b' (off'+k))=some (.int .u8 (ys.getD k 0)):=(hB.cell (xD w _ (hd' k hlt))).trans (hd' k hlt);by_cases he:xs.getD k 0=ys.getD k 0
     .have hS:=vN xs ys k hT (by omega) (by omega) he;have HS:Zh (xs.take (k+1)=ys.take (k+1)):=hS;rw [he] at hck;clear hS hT hd hd' he;generalize ys.getD k 0=z at *;have hz:(z !=z)=false:=by simp
      go_wp2
      go_quiet (fail)
      go_wp2
      go_roundw
      .exact ⟨k+1,by omega,by go_num,HS.o,below_drewN hB _⟩
      .simp [qf,intOf];omega
     .have hf:Zh (decide (xs=ys)=false):=by
       show _=_;simp;intro e;exact he (by rw [e])
      have hz:(xs.getD k 0 !=ys.getD k 0)=true:=by simpa using he
      clear hT hd hd' he;generalize ys.getD k 0=z at *;generalize xs.getD k 0=z' at *;go_wp2
      go_quiet (fail)
      go_wp2;go_ret;exact ⟨aA hf.o.symm,below_drewN hB _⟩
    .have hf:Zh (decide (xs=ys)=true):=by
      show _=_;simp;rw [xG (by omega),xG (by omega)] at hT;exact hT
     clear hT hd hd';go_wp2;go_ret;exact ⟨aA hf.o.symm,hB⟩
 .have hf:Zh (decide (xs=ys)=false):=by
   show _=_;simp;intro e;rw [e] at hl;omega
  have hne:((n:Int) !=(n':Int))=true:=by simp;omega
  clear hc hc';go_enter Tryz.func79,Tryz.ntmps79
  go_wp2;go_ret;exact ⟨aA hf.o.symm,brf⟩
theorem aQp {a:Act}{W:qw}{G:Nat}{d:Option Tmp}{ty:TypeId}{p:String}{af:Array _}{gd:Option _}{v0 v1 v2 v3:Value}(q0:W.cell? (qR G i)=some v0)(q1:W.cell? (qR G (i+1))=some v1)(q2:W.cell? (qR G (i+2))=some v2)(q3:W.cell? (qR G (i+3))=some v3)(h:a.tmps[k]?.getD undef=.pointer (some (qR G i))):(execOp a.eval { dst:=d,op:=Op.load 142 (Operand.tmp k),type:=ty,pos:=p,after:=af,guard:=gd }).run Tryz.prog W=.ok (.value (.agg #[v0,v1,v2,v3])) W:=by
 go_simp
theorem wG (M:Mn)(L:Lay)(a0:qO)(c0:Nat)(xs:List PB)(a2:qO)(c2:Nat)(a5:qO)(c5:Nat)(ts:List TB)(w:qw)(h:MnD w M)(hL:LyT w L a0 c0 xs a2 c2 a5 c5 ts)(eL:L=M.L)(hk:lkc (aE M.ms) M.cs M.cw M.ck M.cd=0)(hr:(M.rn:Int)=L.ram):
 qC 81 #[.agg (qA M),.agg (qJ L a0 xs c0 a2 c2 a5 ts c5)] w (Yn (cW (aE M.ms) L M.cs M.cw M.tn M.rz M.lz/\(M.cs=0\/M.bk=-1\/hld M.lz M.md M.bk≠-1)) w):=by
 obtain ⟨hsl,w0,w1⟩:=aK4 hk;have eL':L=lkL (aE M.ms) M.cs M.cw M.ck M.cd:=eL;rw [<- eL'] at hsl;have hl:=h.l.1;have hmx:=h.l.2.1;have hmr:=h.r.2.1;have hlm:=hL.s.2.1;have hrc:=h.r.2.2.2.2;unfold maxLen at hmx hmr hlm;obtain ⟨U,hU,bU,kU⟩:=nwb w (qA M) 43;obtain ⟨V,hV,bV,kV⟩:=nwb U (qJ L a0 xs c0 a2 c2 a5 ts c5) 71;have BV:=bU.trans (bV.mono bU.size);have kU':=kU.bw bV;have HDV:=zh (h.bw BV);have HSV:=zh (hL.s.bw BV);have HU:=zh hU;have HV:=zh hV;have HB:=zh BV;have HC:=zh (fun (X:qw) (hX:qY V X)=>xA (kU'.bw hX) (kV.bw hX));have y1:=kU'.e1;have y12:=kU'.e12;have HRE:=zh (Below.refl V.heap.size V);have HEQ:=zh (xA eL' (xA hsl (xA hr hk)));clear hU hV bU bV kU kU' kV BV h hL eL eL' hsl hr hk;by_cases c0':¬ (M.ln:Int)=M.cs
 .have HN:Zh (¬ (cW (aE M.ms) L M.cs M.cw M.tn M.rz M.lz/\(M.cs=0\/M.bk=-1\/hld M.lz M.md M.bk≠-1))):=fun f=>c0' (by have:=f.1.1;omega);have c0'':((M.ln:Int) !=M.cs)=true:=by simp [c0']
  clear c0';go_enter Tryz.func81,Tryz.ntmps81
  go_wp2_with (first|rw [<- HU.o]|rw [<- HV.o])
  go_ret;exact cV HN.o HB.o
 replace c0':(M.ln:Int)=M.cs:=xZ.1 c0';have c0'':((M.ln:Int) !=M.cs)=false:=by simp [c0']
 have HCS:=zh c0';clear c0';by_cases cn:M.ln=0
 .have HY:Zh (cW (aE M.ms) L M.cs M.cw M.tn M.rz M.lz/\(M.cs=0\/M.bk=-1\/hld M.lz M.md M.bk≠-1)):=⟨⟨by have:=HCS.o;omega,fun i hi=>absurd hi (by omega)⟩,.inl (by have:=HCS.o;omega)⟩;have HCN:=zh cn;clear cn;go_enter Tryz.func81,Tryz.ntmps81
  go_wp2_with (first|rw [<- HU.o]|rw [<- HV.o])
  clear y1 y12;go_loopw [5] (fun i wr=>∃ k:Nat,i=qI k/\qY V wr) (fun i _=>0)
  .exact ⟨0,rfl,HRE.o⟩
  .obtain ⟨k,rfl,hB⟩:=hrel;have hlt:¬ ((k:Int)<(M.ln:Int)):=by have:=HCN.o;omega
   have h0:((M.ln:Int)==0)=true:=by rw [HCN.o];rfl
   have y12:=(HC.o wr hB).1.e12;have HB2:=zh hB;clear hB;go_wp2;go_ret;exact pZ HY.o (HB.o.trans (HB2.o.mono HB.o.size))
 obtain ⟨g,f,hg⟩:∃ g f,M.la=some ⟨g,f,none⟩:=by
  obtain ⟨g,f,hg,_⟩:=HDV.o.l.2.2.1 cn;exact ⟨g,f,hg⟩
 obtain ⟨eL',hsl,hr,hk⟩:=HEQ.o
 obtain ⟨gs,os,hgs⟩:∃ gs os,a2=some ⟨gs,os,none⟩:=by
  obtain ⟨gs,os,hg,_⟩:=HSV.o.2.2.2.1 (by have:=HCS.o;omega);exact ⟨gs,os,hg⟩
 have HSC:=zh (fun (wr:qw) (hB:qY V wr) (k:Nat) (hk:k<L.slots.length)=>(show wr.cell? (qR gs (os+k))=some (qI (L.slots.getD k 0)) from by
  obtain ⟨g',o',he,hc⟩:=(HSV.o.bw hB).2.2.2.1 (by omega);try unfold qA at *
  try unfold qL at *
  rw [hgs] at he;simp at he;obtain ⟨rfl,rfl⟩:=he
  exact hc k hk))
 have HQ:=zh (fun (wr:qw) (hB:qY V wr) (k:Nat) (hk:k<M.ln)=>(HDV.o.l.bw hB).at k hk _ _ _ _ rfl);have HSO:=zh (fun (k:Nat) (hk:k<M.ln) (b:Bool) (hb:b=true ↔ slk (aE M.ms) M.tn (M.lz.getD k zSl)/\aln M.lz k) (X:qw) (hX:qY V X)=>(aBd M k X (HDV.o.bw hX) hk).mono (fun e w' he=>show e=.returned (.bool b)/\qY X w' from nA he b hb))
 have HSI:=zh (fun (k:Nat) (hi:k<L.slots.length)=>show 65536<=L.slots.getD k 0/\L.slots.getD k 0-65536+(slz M.cw:Int)<=(M.rn:Int)/\M.rn<=16384 from by
  have:=sG hk (show k<(lkL (aE M.ms) M.cs M.cw M.ck M.cd).slots.length by rw [<- eL'];exact hi);rw [<- eL'] at this;obtain ⟨h1,h2,h3,_⟩:=this
  exact ⟨h1,by omega,by omega⟩)
 have HBB:=zh (fun (x0:Bool) (x1 x2 x3:Int) (hp:0<=pcq (aE M.ms) x1 x2) (hb:0<=x2) (X:qw) (hX:qY V X)=>(jU M x0 x1 x2 x3 X (HDV.o.bw hX) hk (by have:=HCS.o;omega) hp hb).mono (fun e w' he=>show ∃ g,e=.returned (qS (qP g) (slz M.cw) (slz M.cw))/\BS w' (qP g) (slz M.cw) (slz M.cw) (bkb (aE M.ms) M.cw x1 x2)/\qY X w' from by
  obtain ⟨g,h1,h2,h3⟩:=he
  exact ⟨g,h1,h2.bs,h3⟩))
 have HHD:=zh (fun (X:qw) (hX:qY V X)=>lD M.la M.ln M.lc M.lz M.md M.bk X (HDV.o.l.bw hX));have HRB:=zh (fun (X:qw) (hX:qY V X)=>HDV.o.r.bw hX);have hz2:=(fK w0 w1).2.1;have hz3:1<=slz M.cw:=by have:=(fK w0 w1).2.2;omega
 try unfold qA at *
 try unfold qL at *
 rw [hg] at HC HSO HBB HHD y12 HU HQ ⊢;try unfold qA at *
 try unfold qL at *
 rw [hgs] at HC HV ⊢;have HSN:=zh (show L.slots.length=M.ln by have:=HCS.o;omega);have hn0:((M.ln:Int)==0)=false:=by simp;omega
 clear cn hg hgs HDV HSV hk eL' hsl hr HEQ;go_enter Tryz.func81,Tryz.ntmps81
 go_wp2_with (first|rw [<- HU.o]|rw [<- HV.o])
 clear y1 y12 HU HV;go_loopw [5,6,7] (fun i _ _ wr=>∃ k:Nat,k<=M.ln/\i=qI k/\(∀ i,i<k->nF (aE M.ms) L M.cw M.tn M.rz M.lz i)/\qY V wr) (fun i _ _ _=>M.ln-(intOf i).toNat)
 .exact ⟨0,xC _,rfl,fun i hi=>absurd hi (by omega),HRE.o⟩
 .obtain ⟨k,hk,rfl,hF,hB⟩:=hrel;have HBR:=zh hB;obtain ⟨m0,m1,m2,m3,m4,m5,m6,m7,m8,m9,m10,m11,m12,m13,m14⟩:=(HC.o wr hB).1.mc;by_cases hlt:k<M.ln
  .have hlt':(k:Int)<(M.ln:Int):=by omega
   have HNO:=zh (fun (q:¬ nF (aE M.ms) L M.cw M.tn M.rz M.lz k)=>aJs (cs:=M.cs) (show k<M.lz.length by omega) q);have HST:=zh (fun (q:nF (aE M.ms) L M.cw M.tn M.rz M.lz k)=>aJr hF q);have HOK:Zh (nF (aE M.ms) L M.cw M.tn M.rz M.lz k ↔ slk (aE M.ms) M.tn (M.lz.getD k zSl)/\aln M.lz k/\((M.lz.getD k zSl).1=true->slb M.rz L M.cw k=bkb (aE M.ms) M.cw (M.lz.getD k zSl).2.1 (M.lz.getD k zSl).2.2.1)):=Iff.rfl;have HQK:=zh (fun (X:qw) (hX:qY V X)=>HQ.o X hX k hlt);obtain ⟨b1,hb1⟩:=fX (slk (aE M.ms) M.tn (M.lz.getD k zSl)/\aln M.lz k);have HSO1:=zh (HSO.o k hlt b1 hb1 wr hB);obtain ⟨s1,s2,s3⟩:=HSI.o k (by rw [HSN.o];exact hlt);have s4:=HSC.o wr hB k (by rw [HSN.o];exact hlt);have HS4:=zh (fun (X:qw) (hX:qY V X)=>HSC.o X hX k (by rw [HSN.o];exact hlt));generalize M.lz.getD k zSl=x at *;obtain ⟨x0,x1,x2,x3⟩:=x;dsimp only at HOK HQK;have HNA:=zh (fun (e:b1=false)=>HNO.o (fun q=>by have:=hb1.2 ⟨(HOK.o.1 q).1,(HOK.o.1 q).2.1⟩;rw [e] at this;cases this));have HB1:=zh hb1;obtain ⟨A,hA⟩:∃ A:Nat,L.slots.getD k 0=65536+(A:Int):=⟨(L.slots.getD k 0-65536).toNat,by omega⟩;have HSBD:=zh (show slb M.rz L M.cw k=(M.rz.drop A).take (slz M.cw) from by unfold slb;rw [hA,show (65536+(A:Int)-65536).toNat=A by omega]);rw [hA] at s2 s4 HS4;clear hb1 hB hF HQ HSO HSC HSI HRE s4 s1 hA;go_wp2_with fail
   refine HSO1.o.mono ?_;rintro e X1 ⟨rfl,hb⟩;have HX1:=zh (HBR.o.trans (hb.mono HBR.o.size));clear hb HSO1 m0 m1 m2 m3 m4 m5 m6 m7 m8 m9 m10 m11 m12 m13 m14;cases b1 with
   | false=>
     have HN:Zh (¬ (cW (aE M.ms) L M.cs M.cw M.tn M.rz M.lz/\(M.cs=0\/M.bk=-1\/hld M.lz M.md M.bk≠-1))):=fun q=>HNA.o (by simp) q.1;go_wp2;go_ret;exact cV HN.o (HB.o.trans (HX1.o.mono HB.o.size))
   | true=>
     obtain ⟨g',f',hg',q0,q1,q2,q3⟩:=HQK.o X1 HX1.o;simp at hg';obtain ⟨rfl,rfl⟩:=hg';obtain ⟨m0,m1,m2,m3,m4,m5,m6,m7,m8,m9,m10,m11,m12,m13,m14⟩:=(HC.o X1 HX1.o).1.mc;cases x0 with
     | false=>
       have HN:=zh (HST.o (HOK.o.2 ⟨(HB1.o.1 rfl).1,(HB1.o.1 rfl).2,fun q=>by cases q⟩));clear HNA HNO HST HOK HB1;go_wp2
       go_roundw
       .exact ⟨k+1,by omega,by go_num,HN.o,HX1.o⟩
       .simp [intOf];omega
     | true=>
       obtain ⟨p2,pq,_⟩:=aGi.1 (HB1.o.1 rfl).1;have HBB1:=zh (HBB.o true x1 x2 x3 pq p2)
       have HS:=zh (fun (X:qw) (hX:qY V X)=>show Blk X w.heap.size (qX M M.ma M.mn M.mc M.ka M.kn M.kc M.fa M.fn M.fc M.ra M.rn M.rc M.oa M.on M.oc (some (qR g f)) M.ln M.lc M.ha M.hn M.hc) 43/\X.cell? (qR g (f+k*4))=some (.bool true)/\X.cell? (qR g (f+k*4+1))=some (qI x1)/\X.cell? (qR g (f+k*4+2))=some (qI x2)/\X.cell? (qR g (f+k*4+3))=some (qI x3) from by
        obtain ⟨g',f',hg',r0,r1,r2,r3⟩:=HQK.o X hX;simp at hg';obtain ⟨rfl,rfl⟩:=hg'
        exact ⟨(HC.o X hX).1,r0,r1,r2,r3⟩)
       have HNT:=zh (fun (e:slb M.rz L M.cw k=bkb (aE M.ms) M.cw x1 x2)=>HST.o (HOK.o.2 ⟨(HB1.o.1 rfl).1,(HB1.o.1 rfl).2,fun _=>e⟩));have HNF:=zh (fun (e:¬ slb M.rz L M.cw k=bkb (aE M.ms) M.cw x1 x2)=>show ¬ (cW (aE M.ms) L M.cs M.cw M.tn M.rz M.lz/\(M.cs=0\/M.bk=-1\/hld M.lz M.md M.bk≠-1)) from fun q=>HNO.o (fun r=>e ((HOK.o.1 r).2.2 rfl)) q.1);clear HNA HNO HST HOK HB1 HBB p2 pq HQK;go_wp2_with fail
       clear m0 m1 m2 m3 m4 m5 m6 m7 m8 m9 m10 m11 m12 m13 m14 q0 q1 q2 q3;refine wp_region_held_drew (S:=(fun X=>Blk X w.heap.size (qX M M.ma M.mn M.mc M.ka M.kn M.kc M.fa M.fn M.fc M.ra M.rn M.rc M.oa M.on M.oc (some (qR g f)) M.ln M.lc M.ha M.hn M.hc) 43/\X.cell? (qR g (f+k*4))=some (.bool true)/\X.cell? (qR g (f+k*4+1))=some (qI x1)/\X.cell? (qR g (f+k*4+2))=some (qI x2)/\X.cell? (qR g (f+k*4+3))=some (qI x3))) (by kernel_rfl) ?_ (fun hHeld=>?_)
       .exact HS.o _ HX1.o.drew
       refine tkV 0 _ rfl (fun w hSw=>pS hSw.1 rfl) ?_;try simp only [yD,yE,yF,Act.put,yA,yB,yC]
       refine tkV 1 ?_ rfl ?_ ?_;rotate_left
       ·(intro w hSw;(try dsimp only at hSw);go_simp;try with_reducible rfl)
       try simp only [yD,yE,yF,Act.put,yA,yB,yC]
       refine tkV 2 _ rfl (fun w hSw=>aOs (hSw.1.cell 12) rfl) ?_;try simp only [yD,yE,yF,Act.put,yA,yB,yC]
       refine tkV 3 ?_ rfl ?_ ?_;rotate_left
       ·(intro w hSw;(try dsimp only at hSw);go_simp;try with_reducible rfl)
       try simp only [yD,yE,yF,Act.put,yA,yB,yC]
       refine tkV 4 ?_ rfl ?_ ?_;rotate_left
       ·(intro w hSw;(try dsimp only at hSw);go_simp;try with_reducible rfl)
       try simp only [yD,yE,yF,Act.put,yA,yB,yC]
       refine tkV 5 _ rfl (fun w hSw=>aQp hSw.2.1 hSw.2.2.1 hSw.2.2.2.1 hSw.2.2.2.2 rfl) ?_;try simp only [yD,yE,yF,Act.put,yA,yB,yC]
       refine wpAnyH_ready (rs:=[6]) (by kernel_rfl) (by simp) (AllReadyH.cons rfl (fun K hK=>?_) AllReadyH.nil);go_simp;refine (HBB1.o _ HX1.o.drew).mono ?_;rintro e X2 ⟨bg,rfl,hs,hb⟩;have HX2:=zh (HX1.o.drew.trans (hb.mono HX1.o.drew.size));have HBS:=zh hs;clear hs hb;try go_wp2_with fail
       refine hK.out _ _ ?_ (fun hHeld=>?_)
       .exact HS.o _ HX2.o
       clear hK K;try simp only [yD,yE,yF,Act.put,yA,yB,yC]
       refine tkV 7 ?_ rfl ?_ ?_;rotate_left
       ·(intro w hSw;(try dsimp only at hSw);go_simp;try with_reducible rfl)
       try simp only [yD,yE,yF,Act.put,yA,yB,yC]
       refine wpAnyH_done (by kernel_rfl) ?_ _;clear hHeld HS;have y8:=(HC.o X2 HX2.o).1.e8;have z2:=(HC.o X2 HX2.o).2.e2;have s4:=HS4.o X2 HX2.o;have hkl:(k:Int)<(L.slots.length:Int):=by rw [HSN.o];exact hlt'
       generalize slz M.cw=sz at *
       obtain ⟨rb,ro,hra⟩:∃ rb ro,M.ra=some ⟨rb,ro,none⟩:=by
        obtain ⟨rb,ro,he,_⟩:=(HRB.o X2 HX2.o).2.2.2.1 (by omega);exact ⟨rb,ro,he⟩
       obtain ⟨E,hE⟩:∃ E:Nat,E=A+sz:=⟨_,rfl⟩
       have HLB:=zh (show qC 79 #[qS (some (qR rb (ro+A))) (E-A) (M.rc-A),qS (qP bg) sz sz] X2 (fun e w'=>e=.returned (.bool (decide (slb M.rz L M.cw k=bkb (aE M.ms) M.cw x1 x2)))/\qY X2 w') from by
        have h1:=HRB.o X2 HX2.o;rw [hra] at h1;have h2:=(h1.drop A (by omega)).take sz (by omega);rw [show E-A=sz by omega,HSBD.o]
        exact pT _ _ _ _ _ _ _ _ X2 h2 HBS.o)
       have hwA:IntKind.i64.wrap (65536+(A:Int)-65536)=(A:Int):=by rw [xP,xQ _ (by omega)];omega
       have hwA2:IntKind.i64.wrap (A:Int)=(A:Int):=by rw [xP,xQ _ (by omega)]
       have hwE:IntKind.i64.wrap ((A:Int)+(sz:Int))=(E:Int):=by rw [xP,xQ _ (by omega)];omega
       have hwE2:(A:Int)+(sz:Int)=(E:Int):=by omega
       have g0:(0:Int)<=(A:Int):=by omega
       have g1:(A:Int)<=(E:Int):=by omega
       have g2:(E:Int)<=(M.rc:Int):=by omega
       have g3:(A:Int)<(M.rc:Int):=by omega
       have g4:A<=E:=by omega
       have g5:¬ (M.rc=A):=by omega
       have g6:A<M.rc:=by omega
       rw [hra] at y8;have HW2:=zh hwE2;clear hE hra HRB HSBD HBS HS4 s2 s3 hwE2;by_cases c3:slb M.rz L M.cw k=bkb (aE M.ms) M.cw x1 x2
       .rw [xR c3] at HLB;have HN:=zh (HNT.o c3);clear HNT HNF c3;go_wp2_with fail
        refine HLB.o.mono ?_;rintro e X3 ⟨rfl,hb⟩;have HX3:=zh (HX2.o.trans (hb.mono HX2.o.size));clear hb HLB;go_wp2
        go_roundw
        .exact ⟨k+1,by omega,by go_num,HN.o,HX3.o⟩
        .simp [intOf];omega
       .rw [xS c3] at HLB;have HN:=zh (HNF.o c3);clear HNT HNF c3;go_wp2_with fail
        refine HLB.o.mono ?_;rintro e X3 ⟨rfl,hb⟩;have HX3:=zh (HX2.o.trans (hb.mono HX2.o.size));clear hb HLB;go_wp2;go_ret;exact cV HN.o (HB.o.trans (HX3.o.mono HB.o.size))
  .have HY:Zh (cW (aE M.ms) L M.cs M.cw M.tn M.rz M.lz):=⟨by have:=HCS.o;omega,fun i hi=>hF i (by omega)⟩;have HH:=zh (HHD.o wr hB);have hhr:=fZ M.lz M.md M.bk;have HCZ:Zh (¬ M.cs=0):=fun e=>by have:=HCS.o;simp at hn0;omega
   clear hB hF HC HSC HSI HSO HBB HRB HHD HQ;by_cases cb:M.bk=-1
   .have cb':(M.bk == -1)=true:=by rw [cb];rfl
    have HP:Zh (cW (aE M.ms) L M.cs M.cw M.tn M.rz M.lz/\(M.cs=0\/M.bk=-1\/hld M.lz M.md M.bk≠-1)):=⟨HY.o,.inr (.inl cb)⟩;clear cb hhr HH;go_wp2;go_ret;exact pZ HP.o (HB.o.trans (HBR.o.mono HB.o.size))
   .have cb':(M.bk == -1)=false:=by simp [cb]
    have HP:Zh ((cW (aE M.ms) L M.cs M.cw M.tn M.rz M.lz/\(M.cs=0\/M.bk=-1\/hld M.lz M.md M.bk≠-1)) ↔ 0<=hld M.lz M.md M.bk):=⟨fun q=>by rcases q.2 with e|e|e;exact absurd e HCZ.o;exact absurd e cb;omega,fun q=>⟨HY.o,.inr (.inr (by omega))⟩⟩;clear cb hhr;generalize hld M.lz M.md M.bk=r at *;go_wp2_with fail
    refine HH.o.mono ?_;rintro e X1 ⟨rfl,hb⟩;have HX1:=zh (HBR.o.trans (hb.mono HBR.o.size));clear hb HH;go_wp2;go_ret;exact aP9 HP.o.symm (HB.o.trans (HX1.o.mono HB.o.size))
theorem aNu (e:Lok ps L):((imR ps L).length:Int)=L.ram:=by
 unfold imR;rw [if_pos e];have K:=kZ e;have h3:=K.rr
 have h4:∀ i,i<=ps.length->(raB ps L i).length=L.ram.toNat:=by
  intro i
  induction i with
  | zero=>intro _;simp [raB]
  | succ i ih=>
    intro hi;have h5:=ih (by omega);have h6:=(K.at i (by omega)).2.2.2;rw [raB,aCp,lR]
    .exact h5
    .rw [h5,K.place i (by omega)];omega
 have:=h4 ps.length aN;omega
theorem aA9 (M:Mn)(L:Lay)(a0:qO)(c0:Nat)(xs:List PB)(a2:qO)(c2:Nat)(a5:qO)(c5:Nat)(ts:List TB)(w:qw)(h:MnD w M)(hL:LyT w L a0 c0 xs a2 c2 a5 c5 ts)(hk:Lok (aE M.ms) L):
 qC 157 #[.agg (qA M),.agg (qJ L a0 xs c0 a2 c2 a5 ts c5)] w (Yn (mok M.fn M.rn M.on=true/\imF (aE M.ms) L=M.fz/\(M.rn:Int)=L.ram) w):=by
 obtain ⟨U,hU,bU,kU⟩:=nwb w (qA M) 43;obtain ⟨V,hV,bV,kV⟩:=nwb U (qJ L a0 xs c0 a2 c2 a5 ts c5) 71;have BV:=bU.trans (bV.mono bU.size);have kU':=kU.bw bV
 have HIM:=zh (show qC 191 #[qS M.ma M.mn M.mc,.agg (qJ L a0 xs c0 a2 c2 a5 ts c5)] V (fun e w'=>qY V w'/\∃ b1 n1 d1 b2 n2 d2 b3 n3 d3,e=.returned (.tuple #[.agg (qV b1 n1 d1 b2 n2 d2 b3 n3 d3),.bool true])/\OM w' V.heap.size (qS b1 n1 d1) (qS b2 n2 d2) (qS b3 n3 d3) (imF (aE M.ms) L) (imR (aE M.ms) L) []) from by
  have:=aFj M.ma M.mn M.mc M.ms L a0 c0 xs a2 c2 a5 c5 ts V (h.m.bw BV) (hL.bw BV);unfold ImM at this;rw [xR hk] at this
  exact this)
 have HRL:=zh (aNu hk);have HFV:=zh (fun (X:qw) (hX:qY V X)=>(h.f.bw BV).bw hX);have HU:=zh hU;have HV:=zh hV;have HB:=zh BV;have HMO:=zh (fun (X:qw)=>uC M.fa M.ra M.oa M.fn M.fc M.rn M.rc M.on M.oc X);have hmr:=h.r.2.1;unfold maxLen at hmr;have HC:=zh (fun (X:qw) (hX:qY V X)=>show X.cell? (qR w.heap.size 0)=some (qS M.ma M.mn M.mc)/\X.cell? (qR w.heap.size 7)=some (qS M.fa M.fn M.fc)/\X.cell? (qR w.heap.size 8)=some (qS M.ra M.rn M.rc)/\X.cell? (qR w.heap.size 9)=some (qS M.oa M.on M.oc) from ⟨(kU'.bw hX).cell 0,(kU'.bw hX).cell 7,(kU'.bw hX).cell 8,(kU'.bw hX).cell 9⟩);obtain ⟨z0,z1,z2,z3,z4,z5⟩:=kV.ly6;obtain ⟨y0,y7,y8,y9⟩:=HC.o V brf;clear hU hV bU bV kU kU' kV BV h hL hk;go_enter Tryz.func157,Tryz.ntmps157
 go_wp2_with (first|rw [<- HU.o]|rw [<- HV.o])
 refine HIM.o.mono ?_;rintro e X1 ⟨hb1,b1,n1,d1,b2,n2,d2,b3,n3,d3,rfl,O⟩;obtain ⟨W,hW,bW,kW⟩:=nwb X1 (qV b1 n1 d1 b2 n2 d2 b3 n3 d3) 39;have BW:=hb1.trans (bW.mono hb1.size);have HW:=zh hW;have HBW:=zh BW;have HOF:=zh (fun (X:qw) (hX:qY W X)=>(((O.o1.bw bW).bw hX).bs));have HRN:=zh (show ((n2:Nat):Int)=L.ram from by rw [<- HRL.o,O.o2.bs.1]);have hn2:=O.o2.bs.2.1;unfold maxLen at hn2;have HKW:=zh kW;clear y0 y7 y8 y9 z0 z1 z2 z3 z4 z5 HU HV HIM hW bW kW hb1 O;obtain ⟨y0,y7,y8,y9⟩:=HC.o W BW;clear BW;have HBE:=zh (fun (X:qw) (hX:qY W X)=>lK M.fa b1 M.fn M.fc n1 d1 M.fz (imF (aE M.ms) L) X (HFV.o X (HBW.o.trans (hX.mono HBW.o.size))) (HOF.o X hX));by_cases c1:mok M.fn M.rn M.on=true
 .rw [c1] at HMO;have HC1:=zh c1;clear c1;go_wp2_with (rw [<- HW.o])
  refine (HMO.o _).mono ?_;rintro e X2 ⟨rfl,hb2⟩;have HB2:=zh (HBW.o.trans (hb2.mono HBW.o.size));have HBE2:=zh (HBE.o X2 hb2);clear y0 y7 y8 y9;obtain ⟨y0,y7,y8,y9⟩:=HC.o X2 HB2.o;have i0:=(HKW.o.bw hb2).e0;have i1:=(HKW.o.bw hb2).e1;clear hb2 HMO HBE HKW HOF HFV HC HW;by_cases c2:M.fz=imF (aE M.ms) L
  .rw [xR c2] at HBE2;have HC2:=zh c2.symm;clear c2;go_wp2_with fail
   refine HBE2.o.mono ?_;rintro e X3 ⟨rfl,rfl⟩;go_wp2;go_ret;have hrn:=HRN.o;refine ⟨_,rfl,?_,HB.o.trans (HB2.o.mono HB.o.size)⟩;constructor
   .intro q;exact ⟨HC1.o,HC2.o,by simp at q;omega⟩
   .intro q;have:=q.2.2;simp;omega
  .rw [xS c2] at HBE2;have HC2:Zh (¬ (mok M.fn M.rn M.on=true/\imF (aE M.ms) L=M.fz/\(M.rn:Int)=L.ram)):=fun q=>c2 q.2.1.symm;clear c2;go_wp2_with fail
   refine HBE2.o.mono ?_;rintro e X3 ⟨rfl,rfl⟩;go_wp2;go_ret;exact cV HC2.o (HB.o.trans (HB2.o.mono HB.o.size))
 .have e1:mok M.fn M.rn M.on=false:=by simpa using c1
  rw [e1] at HMO;have HC2:Zh (¬ (mok M.fn M.rn M.on=true/\imF (aE M.ms) L=M.fz/\(M.rn:Int)=L.ram)):=fun q=>c1 q.1;clear c1 e1;go_wp2_with (rw [<- HW.o])
  refine (HMO.o _).mono ?_;rintro e X2 ⟨rfl,hb2⟩;have HB2:=zh (HBW.o.trans (hb2.mono HBW.o.size));clear hb2;go_wp2;go_ret;exact cV HC2.o (HB.o.trans (HB2.o.mono HB.o.size))
theorem aEj (M:Mn)(w:qw)(h:MnD w M):
 qC 159 #[.agg (qA M)] w (Yn (vY (aE M.ms) M.cs M.md M.bk M.lz) w):=by
 obtain ⟨U,hU,bU,kU⟩:=nwb w (qA M) 43;have HIP:=zh (lG M.ma M.mn M.mc M.ms M.md M.bk U (h.m.s.bw bU));rw [dX h.m M.md M.bk] at HIP;have HSW:=zh (fun (X:qw) (hX:qY U X)=>jB M.la M.ln M.lc M.lz M.md M.bk X ((h.l.bw bU).bw hX));have HU:=zh hU;have HB:=zh bU;have HC:=zh (fun (X:qw) (hX:qY U X)=>show X.cell? (qR w.heap.size 0)=some (qS M.ma M.mn M.mc)/\X.cell? (qR w.heap.size 1)=some (qI M.cs)/\X.cell? (qR w.heap.size 10)=some (qI M.md)/\X.cell? (qR w.heap.size 11)=some (qI M.bk)/\X.cell? (qR w.heap.size 12)=some (qS M.la M.ln M.lc) from ⟨(kU.bw hX).cell 0,(kU.bw hX).cell 1,(kU.bw hX).cell 10,(kU.bw hX).cell 11,(kU.bw hX).cell 12⟩);obtain ⟨y0,y1,y10,y11,y12⟩:=HC.o U brf;clear hU bU kU h;by_cases c1:0<=pcq (aE M.ms) M.md M.bk
 .rw [xR c1] at HIP;have HPR:Zh ((vY (aE M.ms) M.cs M.md M.bk M.lz) ↔ (M.cs=0\/M.bk=-1\/hld M.lz M.md M.bk≠-1)):=⟨fun q=>q.2,fun q=>⟨c1,q⟩⟩;clear c1;go_enter Tryz.func159,Tryz.ntmps159
  go_wp2_with (rw [<- HU.o])
  refine HIP.o.mono ?_;rintro e X1 ⟨rfl,hb1⟩;have HX1:=zh hb1;clear y0 y1 y10 y11 y12;obtain ⟨y0,y1,y10,y11,y12⟩:=HC.o X1 hb1;have HS1:=zh (HSW.o X1 hb1);clear hb1 HIP HU HSW HC;by_cases c2:M.cs=0
  .have c2':(M.cs !=0)=false:=by simp [c2]
   have HP:=zh (HPR.o.2 (.inl c2));clear c2;go_wp2;go_ret;exact pZ HP.o (HB.o.trans (HX1.o.mono HB.o.size))
  have c2':(M.cs !=0)=true:=by simp [c2]
  by_cases c3:M.bk=-1
  .have c3':(M.bk !=-1)=false:=by simp [c3]
   have HP:=zh (HPR.o.2 (.inr (.inl c3)));clear c2 c3;go_wp2;go_ret;exact pZ HP.o (HB.o.trans (HX1.o.mono HB.o.size))
  have c3':(M.bk !=-1)=true:=by simp [c3]
  have HP:Zh ((vY (aE M.ms) M.cs M.md M.bk M.lz) ↔ hld M.lz M.md M.bk≠-1):=⟨fun q=>by rcases HPR.o.1 q with e|e|e;exact absurd e c2;exact absurd e c3;exact e,fun q=>HPR.o.2 (.inr (.inr q))⟩;clear c2 c3 HPR;generalize hld M.lz M.md M.bk=r at *;go_wp2_with fail
  refine HS1.o.mono ?_;rintro e X2 ⟨rfl,hb2⟩;have HX2:=zh (HX1.o.trans (hb2.mono HX1.o.size));clear hb2 HS1;go_wp2;go_ret;exact ⟨_,rfl,by rw [HP.o];simp,HB.o.trans (HX2.o.mono HB.o.size)⟩
 .rw [xS c1] at HIP;have HN:Zh (¬ (vY (aE M.ms) M.cs M.md M.bk M.lz)):=fun q=>c1 q.1;clear c1;go_enter Tryz.func159,Tryz.ntmps159
  go_wp2_with (rw [<- HU.o])
  refine HIP.o.mono ?_;rintro e X1 ⟨rfl,hb1⟩;have HX1:=zh hb1;clear hb1 HIP HU;go_wp2;go_ret;exact cV HN.o (HB.o.trans (HX1.o.mono HB.o.size))
section
variable {W W':World}{base mid n' c':Nat}{C:Cn}{M:Mn}{Ls:List (PMod×Mb)}{β:Nat->Nat}{a':qO}{x:FrT}
theorem MxO.push (h:MxO W base mid C M Ls β)(hg:W.grownBy W' (qS M.ha M.hn M.hc).ownBlock)(q:OG 135 4 bC W' mid (qS a' n' c') (C.hz++[x])):MxO W' base mid { C with hz:=C.hz++[x] } { M with ha:=a',hn:=n',hc:=c',hz:=C.hz++[x] } Ls β:=by
 have T:Turn (fun j=>(qS M.ha M.hn M.hc).ownBlock=some j) W W':=⟨hg.os,hg.tape,hg.output,hg.size,fun k hk hs=>hg.block k hk (fun e=>hs e.symm)⟩
 have key:∀ {t:TypeId} {sz n b:Nat} {v:Value} {xs:List Value},W.ownsRow b t sz v n xs->t≠135->∀ k,v.ownBlock=some k->¬ (qS M.ha M.hn M.hc).ownBlock=some k:=fun ho n1 k hk s=>by
  obtain ⟨_,k1⟩:=aD h.h s;obtain ⟨_,k2⟩:=aD ho hk;exact n1 (aH k2 k1)
 exact ⟨h.upd T (fun j s=>by
  obtain ⟨cs,kb⟩:=aD h.h s
  exact ⟨(h.h.lt j s).1,cs,_,kb,by decide,by decide⟩),h.e,aV T h.k (key h.k.1 (by decide)),dM h.q T (fun j hj=>by
  rcases hj with q|q|q
  .exact key h.q.1.1 (by decide) j q
  .exact key h.q.2.1.1 (by decide) j q
  .exact key h.q.2.2.1.1 (by decide) j q),h.l.kept T (key h.l (by decide)),q,h.bm,h.bh,h.vs,⟨h.vz.1,h.vz.2.1,h.vz.2.2.1,h.vz.2.2.2.1,h.vz.2.2.2.2.1,h.vz.2.2.2.2.2.1,rfl⟩⟩
end
theorem aGu {W:World}{mid n:Nat}{v:Value}{hz:List FrT}{x:FrT}(hl:hz.length=n)(h:W.ownsRow mid 135 4 v (n+1) (hz.flatMap bC++bC x)):OG 135 4 bC W mid v (hz++[x]):=by
 unfold OG;rw [List.length_append,hl,List.flatMap_append,List.flatMap_singleton];exact h
def PuP (w1 w:World)(G:Nat)(Y:Lyb)(C:Cn)(M:Mn)(v13 vr:Value)(x:FrT)(e:Ending)(w':World):Prop:=
 if (C.hz.length:Int)<C.cd then e=.returned (.bool true)/\(∃ M',Mg w1 w' G Y { C with hz:=C.hz++[x] } M' v13 vr)/\(∀ (j:Nat) (cs:Array Value),Blk w j cs 58->Blk w' j cs 58) else e=.returned (.bool false)/\qY w w'
theorem aKb (w1:World)(G:Nat)(Y:Lyb)(C:Cn)(M:Mn)(v13 vr:Value)(w:World)(h:Mg w1 w G Y C M v13 vr)(x0 x1 x2 x3:Int)(hc:C.cd<=100):Calls Tryz.prog 134 #[.pointer (some ⟨G,21,none⟩),.agg (qW x0 x1 x2 x3)] w (PuP w1 w G Y C M v13 vr (x0,x1,x2,x3)):=by
 obtain ⟨base,mid,Ls,β,mm,g1,g2⟩:=h.m;have eh:M.hn=C.hz.length:=gY mm.h;have ed:M.cd=C.cd:=h.vs.1.2.2.2.1;obtain ⟨U,hU,bU,kU⟩:=nwb w (qW x0 x1 x2 x3) 135;have c21:U.cell? ⟨G,21,none⟩=some (qI M.cd):=(h.k.bw bU).cell 21;have c22:U.cell? ⟨G,22,none⟩=some (qS M.ha M.hn M.hc):=(h.k.bw bU).cell 22;have HU:=zh hU;have HB:=zh bU;by_cases c0:(C.hz.length:Int)<C.cd
 .refine Calls.mono (R:=fun e w'=>e=.returned (.bool true)/\(∃ M',Mg w1 w' G Y { C with hz:=C.hz++[(x0,x1,x2,x3)] } M' v13 vr)/\(∀ (j:Nat) (cs:Array Value),Blk w j cs 58->Blk w' j cs 58)) ?_ (fun e w' he=>by unfold PuP;rw [if_pos c0];exact he);have hlt:¬ M.cd<=(M.hn:Int):=by omega
  obtain ⟨V,hV⟩:=eqx U.drew;have bV:qY U V:=by rw [hV];exact brf.drew
  have BV:=bU.trans (bV.mono bU.size);have hVs:V.heap.size=w.heap.size+1:=by rw [hV,hU];simp
  have hG:=h.k.lt;have kV:=kU.bw bV;obtain ⟨b0,b1,b2,b3⟩:=kV.z4;have v22:V.cell? ⟨G,22,none⟩=some (qS M.ha M.hn M.hc):=(h.k.bw BV).cell 22;have a22:(V.alloc (.cells (qW x0 x1 x2 x3) 135)).cell? ⟨G,22,none⟩=some (qS M.ha M.hn M.hc):=((h.k.bw BV).alloc _).cell 22
  have HOW:=zh (fun (X:World) (hX:qY V X)=>show (X.alloc (.cells (qW x0 x1 x2 x3) 135)).ownsRow mid 135 4 (qS M.ha M.hn M.hc) M.hn (C.hz.flatMap bC) from by
   have:=(mm.h.bw (BV.trans (hX.mono BV.size))).bw (w':=X.alloc (.cells (qW x0 x1 x2 x3) 135)) bal;unfold OG at this;rw [<- eh] at this
   exact this)
  have HNW:=zh (fun (X:World)=>bJ X (qW x0 x1 x2 x3) 135 (bC (x0,x1,x2,x3)) rfl)
  have HSZ:=zh (fun (X:World) (hX:qY V X)=>show mid<=(X.alloc (.cells (qW x0 x1 x2 x3) 135)).heap.size from by
   have:=hX.size;simp
   omega)
  have HPU:=zh (fun (X:World) (hX:qY V X) (g c:Nat) (w4:World) (hown:w4.ownsRow mid 135 4 (qS (qP g) (M.hn+1) c) (M.hn+1) (C.hz.flatMap bC++bC (x0,x1,x2,x3))) (hgr:(X.alloc (.cells (qW x0 x1 x2 x3) 135)).grownBy w4 (qS M.ha M.hn M.hc).ownBlock)=>show (w4.cell? ⟨G,22,none⟩=some (qS M.ha M.hn M.hc)/\w4.frozen? ⟨G,22,none⟩=false)/\Mg w1 (w4.setCell ⟨G,22,none⟩ (qS (qP g) (M.hn+1) c)) G Y { C with hz:=C.hz++[(x0,x1,x2,x3)] } { M with ha:=qP g,hn:=M.hn+1,hc:=c,hz:=C.hz++[(x0,x1,x2,x3)] } v13 vr/\(∀ (j:Nat) (cs:Array Value),Blk w j cs 58->Blk (w4.setCell ⟨G,22,none⟩ (qS (qP g) (M.hn+1) c)) j cs 58) from by
   have B:=(BV.trans (hX.mono BV.size)).trans ((bal (w:=X) (o:=.cells (qW x0 x1 x2 x3) 135)).mono (BV.trans (hX.mono BV.size)).size);have hA:=h.bw B;have mA:=mm.bw B
   have k4:=cM hA.k hgr (fun e=>by
    obtain ⟨_,k1⟩:=aD mA.h e.symm
    exact absurd (aH k1 hA.k) (by decide))
   have b4:=vD hA.b hgr (fun k hk=>by have:=(mA.h.lt k hk).1;have:=mA.bm;omega);refine ⟨⟨k4.cell 22,k4.frozen 22⟩,⟨aG b4 (aC w4 G 22 _) (fun j hj=>by have:=h.g;omega) b4.size,h.g,k4.set 22 (qS (qP g) (M.hn+1) c),⟨base,mid,Ls,β,(mA.push hgr (aGu eh.symm hown)).gm k4 g2 (aC w4 G 22 _),g1,g2⟩,h.l⟩,fun j cs kj=>?_⟩
   have k5:=cM (kj.bw B) hgr (fun e=>by
    obtain ⟨_,k1⟩:=aD mA.h e.symm
    exact absurd (aH k1 (kj.bw B)) (by decide))
   exact k5.other ⟨G,22,none⟩ _ (fun e=>by
    have e':j=G:=e;rw [e'] at k5
    exact absurd (aH k5 k4) (by decide)))
  obtain ⟨iF,hiF,hiF0,hiF1,hiF2⟩:=info_parts uB;have HV:=zh hV;have hN:M.hn<=100:=by omega
  clear hU bU kU hV bV BV kV h mm eh ed hVs c0;go_enter Tryz.func134,Tryz.ntmps134
  go_wp2_with (rw [<- HU.o])
  go_region_held3 (fun w'=>w'.cell? ⟨G,22,none⟩=some (qS M.ha M.hn M.hc)/\w'.cell? ⟨G,21,none⟩=some (qI M.cd)) (go_keep) (fail)
  rw [<- HV.o];clear c21 c22;go_wp2_with fail
  go_region_law (first
   | (refine step_append_lies _ (by rfl) _ _ 41 (by rfl) mid 135 iF _ 4 _ Tryz.underlying41 hiF hiF0 hiF1 hiF2 rfl (by decide) (qS M.ha M.hn M.hc) M.hn (C.hz.flatMap bC) (by rfl) (by first|exact HOW.o _ brf|exact HOW.o _ brf.drew) ⟨V.heap.size,0,none⟩ 1 1 (bC (x0,x1,x2,x3)) (by rfl) (by rfl) (by first|exact HNW.o V|exact HNW.o V.drew) (by intro u hu;simp [bC] at hu;rcases hu with rfl|rfl|rfl|rfl<;>rfl) (by decide) (by unfold maxLen;omega) (by omega) (by first|exact HSZ.o _ brf|exact HSZ.o _ brf.drew) _ rfl ?_;intro g4 c4 w4 hown hgr _ _;have HPX:=zh (by first|exact HPU.o _ brf _ _ _ hown hgr|exact HPU.o _ brf.drew _ _ _ hown hgr);obtain ⟨p4,f4⟩:=HPX.o.1;clear hown hgr))
  all_goals
   go_wp2;go_ret;exact ⟨rfl,⟨_,HPX.o.2.1⟩,HPX.o.2.2⟩
 .refine Calls.mono (R:=fun e w'=>e=.returned (.bool false)/\qY w w') ?_ (fun e w' he=>by unfold PuP;rw [if_neg c0];exact he);have hlt:M.cd<=(M.hn:Int):=by omega
  clear hU bU kU h mm eh ed c0;go_enter Tryz.func134,Tryz.ntmps134
  go_wp2_with (rw [<- HU.o])
  go_region_held3 (fun w'=>w'.cell? ⟨G,22,none⟩=some (qS M.ha M.hn M.hc)/\w'.cell? ⟨G,21,none⟩=some (qI M.cd)) (go_keep) (fail)
  go_wp2;go_ret;exact ⟨rfl,HB.o.drew⟩
end Go.Proofs.YtncccmeomcaabaaGreat
namespace Go.Proofs.YtncccmeomcaabaaGreat
open Go.ChangeShapes Go.WideShapes Go.ChangeAt Go.RowKit Classical
variable {z:Int}
theorem own:ownKnob Tryz.prog.godebug=none:=by kernel_rfl
theorem aG1:laidOutB Tryz.prog=true:=by kernel_rfl
theorem aQb (h:(Lit.int .u8 z).wf=true):0<=z/\z<=255:=by
 simp [Lit.wf,IntKind.min,IntKind.max,IntKind.signed,IntKind.bits] at h;omega
theorem wf_i64 (h:(Lit.int .i64 z).wf=true):-9223372036854775808<=z/\z<=9223372036854775807:=by
 simp [Lit.wf,IntKind.min,IntKind.max,IntKind.signed,IntKind.bits] at h;omega
set_option maxRecDepth 100000 in
theorem jQ {H:Type}{enc:TypeId×Value->H}{w:qw}{base:Nat}{held:Bool}{fuel:Nat}{cs:List Value}{x:DataW H×List MemPlace}
 (h:DataW.trod enc Tryz.prog w base (fun _=>true) held fuel 28 cs=some x):∃ a n cap zs,cs=[qS a n cap]/\BS w a n cap zs:=by
 rcases open_ints Tryz.underlying28 Tryz.underlying5 (by kernel_rfl) h with ⟨hcs,_⟩|⟨x,l,c,zs,hcs,_,hl,hm,hz,_,hcell,hwz⟩
 .exact ⟨none,0,0,[],hcs,rfl,Nat.zero_le _,by simp,fun h=>absurd rfl h,aN⟩
 .simp at hz;refine ⟨some x,l,c,zs.take l,hcs,by simp;omega,by omega,fun z hz'=>aQb (hwz z (List.mem_of_mem_take hz')),fun hl0=>?_,hl⟩;obtain ⟨b,off,spot⟩:=x;have hspot:spot=none:=by simpa [Addr.add] using World.cell?_spot (hcell 0 (by omega))
  subst hspot;refine ⟨b,off,rfl,fun i hi=>?_⟩;have:=hcell i (by omega)
  have ea:(Addr.add (qR b off) i)=(qR b (off+i)):=by
   simp only [Addr.add];split
   .next h=>subst h;rfl
   .rfl
  rw [ea] at this;rw [this];simp [List.getD_eq_getElem?_getD,hi]
