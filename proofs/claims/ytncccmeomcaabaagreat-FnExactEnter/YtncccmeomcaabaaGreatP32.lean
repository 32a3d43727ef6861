import Derived.Test.YtncccmeomcaabaaGreatP20
import Derived.Test.YtncccmeomcaabaaGreatP23
import Derived.Test.YtncccmeomcaabaaGreatP25
import Derived.Test.YtncccmeomcaabaaGreatP30
set_option linter.all false
set_option maxHeartbeats 64000000
namespace Go.Proofs.YtncccmeomcaabaaGreat
open Go.RowKit Classical
open Go.Proofs.Tryz
set_option maxRecDepth 100000
variable {L:Lay}{T cw:Int}{k:Nat}{ps:List PMod}{xs:List SlT}
theorem qF (x0 x1 x2 x3:Int)(w:qw):
 qC 93 #[.agg (qW x0 x1 x2 x3)] w (qB w (.agg (qT x0 x1 x2))):=by
 go_enter func93,ntmps93
 go_wp2;refine bodyPost_ret (v:=.agg (qT x0 x1 x2)) (by simp [results,results93,go_sem]) rfl ⟨rfl,?_⟩;exact bal.alloc (by simp) _
theorem zW (M:Mn)(w:qw)(h:MnD w M):
 qC 160 #[.agg (qA M)] w (Yn (jQ (aD M.ms) M.cd M.hz) w):=by
 obtain ⟨V,hV,bV,kV⟩:=nwb w (qA M) 43;have hl:=h.h.1;have hmx:=h.h.2.1;unfold maxLen at hmx;have HDh:=zh (h.h.bw bV);have HDm:=zh (h.m.bw bV);have HV:=zh hV;have HK:=zh (xA bV kV);have HC:=zh (fun (X:qw) (hX:qY V X)=>show X.cell? (qR w.heap.size 0)=some (qS M.ma M.mn M.mc)/\X.cell? (qR w.heap.size 4)=some (qI M.cd)/\X.cell? (qR w.heap.size 13)=some (qS M.ha M.hn M.hc) from ⟨(kV.bw hX).cell 0,(kV.bw hX).cell 4,(kV.bw hX).cell 13⟩);clear hV kV bV h;generalize M.ha=hA at *;obtain ⟨y0,y4,y13⟩:=HC.o V brf;by_cases c0:M.cd<(M.hn:Int)
 .have HN:Zh (¬ jQ (aD M.ms) M.cd M.hz):=fun f=>by have:=f.1;omega
  go_enter func160,ntmps160
  go_wp2_with (rw [<- HV.o])
  go_ret;exact cU HN.o (HK.o.1)
 have c0':(M.hn:Int)<=M.cd:=by omega
 have HRE:=zh (Below.refl V.heap.size V);go_enter func160,ntmps160
 go_wp2_with (rw [<- HV.o])
 clear y0 y4 y13;go_loopw [15] (fun i wr=>∃ k:Nat,k<=M.hn/\i=qI k/\(∀ i,i<k->frk (aD M.ms) (M.hz.getD i zFr))/\qY V wr) (qf M.hn)
 .exact ⟨0,xC _,rfl,fun i hi=>absurd hi (by omega),HRE.o⟩
 .obtain ⟨k,hk,rfl,hF,hB⟩:=hrel;have HB:=zh hB;by_cases hlt:k<M.hn
  .have hlt':(k:Int)<(M.hn:Int):=by omega
   obtain ⟨g,f,rfl,q0,q1,q2,q3⟩:=(HDh.o.bw hB).at k hlt _ _ _ _ rfl;have HNO:=zh (fun (q:¬ frk (aD M.ms) (M.hz.getD k zFr))=>aK4 (cd:=M.cd) (show k<M.hz.length by omega) q)
   have HST:=zh (fun (q:frk (aD M.ms) (M.hz.getD k zFr)) (i:Nat) (hi:i<k+1)=>show frk (aD M.ms) (M.hz.getD i zFr) from by
    by_cases e:i=k
    .rw [e];exact q
    .exact hF i (by omega))
   generalize M.hz.getD k zFr=x at *;obtain ⟨x0,x1,x2,x3⟩:=x;dsimp only at q0 q1 q2 q3;obtain ⟨U,hU,bU,kU⟩:=nwb wr (qW x0 x1 x2 x3) 135;have BU:=hB.trans (bU.mono hB.size);have HBU:=zh BU;have HU:=zh hU;have HMC:=zh (fun (X:qw) (hX:qY U X)=>show X.cell? (qR w.heap.size 0)=some (qS M.ma M.mn M.mc)/\X.cell? (qR wr.heap.size 0)=some (qI x0)/\X.cell? (qR wr.heap.size 1)=some (qI x1)/\X.cell? (qR wr.heap.size 2)=some (qI x2)/\X.cell? (qR wr.heap.size 3)=some (qI x3) from ⟨(HC.o X (BU.trans (hX.mono BU.size))).1,(kU.bw hX).cell 0,(kU.bw hX).cell 1,(kU.bw hX).cell 2,(kU.bw hX).cell 3⟩);have HTG:=zh (fun (X:qw) (hX:qY U X)=>(qF x0 x1 x2 x3 X).mono (fun e w' he=>show e=.returned (.agg (qT x0 x1 x2))/\qY U w' from ⟨he.1,hX.trans (he.2.mono hX.size)⟩));have HTO:=zh (fun (X:qw) (hX:qY U X)=>(mS M.ma M.mn M.mc M.ms x0 x1 x2 X ((HDm.o.bw BU).bw hX)).mono (fun e w' he=>show e=.returned (.bool (decide (tgk (aD M.ms) x0 x1 x2)))/\qY U w' from ⟨he.1,hX.trans (he.2.mono hX.size)⟩));have HIW:=zh (cC x3);have HFK:Zh (frk (aD M.ms) (x0,x1,x2,x3) ↔ tgk (aD M.ms) x0 x1 x2/\0<=x3/\x3<=4294967295):=Iff.rfl;clear hB hF hU kU bU BU;by_cases c1:tgk (aD M.ms) x0 x1 x2
   .rw [xR c1] at HTO;by_cases c2:0<=x3/\x3<=4294967295
    .rw [xR c2] at HIW;have HY:=zh (HST.o (HFK.o.2 ⟨c1,c2⟩));clear c1 c2;obtain ⟨p0,t0,t1,t2,t3⟩:=HMC.o U brf;go_wp2_with (rw [<- HU.o])
     first|(go_region_held3 (fun w'=>w'.cell? (qR w.heap.size 0)=some (qS M.ma M.mn M.mc)/\w'.cell? (qR wr.heap.size 0)=some (qI x0)/\w'.cell? (qR wr.heap.size 1)=some (qI x1)/\w'.cell? (qR wr.heap.size 2)=some (qI x2)/\w'.cell? (qR wr.heap.size 3)=some (qI x3)) (go_keep)
      (first
        | (go_at_call 93;first
            | with_reducible refine (HTG.o _ brf).mono ?_
            | with_reducible refine (HTG.o _ brf.drew).mono ?_
           rintro e w1 ⟨rfl,hb1⟩;have HB1:=zh hb1;obtain ⟨r0,s0,s1,s2,s3⟩:=HMC.o w1 hb1
           clear hb1)
        | (go_at_call 126;first
            | with_reducible refine (HTO.o _ HB1.o).mono ?_
            | with_reducible refine (HTO.o _ HB1.o.drew).mono ?_
           rintro e w2 ⟨rfl,hb2⟩;have HB2:=zh hb2;obtain ⟨n0,m0,m1,m2,m3⟩:=HMC.o w2 hb2
           clear hb2)
        | (go_at_call 190;refine (HIW.o _).mono ?_;rintro e w3 ⟨rfl,rfl⟩)))|fail
     have HE:=zh (HBU.o.trans (HB2.o.mono HBU.o.size));clear p0 t0 t1 t2 t3 r0 s0 s1 s2 s3 n0 m0 m1 m2 m3 HTG HTO HMC HB1 HB2;go_wp2
     go_roundw
     .exact ⟨k+1,by omega,by go_num,HY.o,HE.o⟩
     .simp [qf,intOf];omega
    .rw [xS c2] at HIW;have HN:=zh (HNO.o (fun f=>c2 (HFK.o.1 f).2));clear c1 c2;obtain ⟨p0,t0,t1,t2,t3⟩:=HMC.o U brf;go_wp2_with (rw [<- HU.o])
     first|(go_region_held3 (fun w'=>w'.cell? (qR w.heap.size 0)=some (qS M.ma M.mn M.mc)/\w'.cell? (qR wr.heap.size 0)=some (qI x0)/\w'.cell? (qR wr.heap.size 1)=some (qI x1)/\w'.cell? (qR wr.heap.size 2)=some (qI x2)/\w'.cell? (qR wr.heap.size 3)=some (qI x3)) (go_keep)
      (first
        | (go_at_call 93;first
            | with_reducible refine (HTG.o _ brf).mono ?_
            | with_reducible refine (HTG.o _ brf.drew).mono ?_
           rintro e w1 ⟨rfl,hb1⟩;have HB1:=zh hb1;obtain ⟨r0,s0,s1,s2,s3⟩:=HMC.o w1 hb1
           clear hb1)
        | (go_at_call 126;first
            | with_reducible refine (HTO.o _ HB1.o).mono ?_
            | with_reducible refine (HTO.o _ HB1.o.drew).mono ?_
           rintro e w2 ⟨rfl,hb2⟩;have HB2:=zh hb2;obtain ⟨n0,m0,m1,m2,m3⟩:=HMC.o w2 hb2
           clear hb2)
        | (go_at_call 190;refine (HIW.o _).mono ?_;rintro e w3 ⟨rfl,rfl⟩)))|fail
     have HE:=zh (HBU.o.trans (HB2.o.mono HBU.o.size));clear p0 t0 t1 t2 t3 r0 s0 s1 s2 s3 n0 m0 m1 m2 m3 HTG HTO HMC HB1 HB2;go_wp2;go_ret;exact cU HN.o (HK.o.1.trans (HE.o.mono HK.o.1.size))
   .rw [xS c1] at HTO
    .have HN:=zh (HNO.o (fun f=>c1 (HFK.o.1 f).1));clear c1;go_wp2_with (rw [<- HU.o])
     refine wp_region_held_drew (S:=(fun w'=>w'.cell? (qR w.heap.size 0)=some (qS M.ma M.mn M.mc)/\w'.cell? (qR wr.heap.size 0)=some (qI x0)/\w'.cell? (qR wr.heap.size 1)=some (qI x1)/\w'.cell? (qR wr.heap.size 2)=some (qI x2)/\w'.cell? (qR wr.heap.size 3)=some (qI x3))) (by kernel_rfl) ?_ (fun hHeld=>?_)
     .exact HMC.o _ brf.drew
     refine tkV 0 ?_ rfl ?_ ?_;rotate_left
     ·(intro w hSw;(try dsimp only at hSw);go_simp;try with_reducible rfl)
     try simp only [yD,yE,yF,Act.put,yA,yB,yC]
     refine tkV 1 ?_ rfl ?_ ?_;rotate_left
     ·(intro w hSw;(try dsimp only at hSw);go_simp;try with_reducible rfl)
     try simp only [yD,yE,yF,Act.put,yA,yB,yC]
     refine tkV 2 ?_ rfl ?_ ?_;rotate_left
     ·(intro w hSw;(try dsimp only at hSw);go_simp;try with_reducible rfl)
     try simp only [yD,yE,yF,Act.put,yA,yB,yC]
     refine wpAnyH_ready (rs:=[3]) (by kernel_rfl) (by simp) (AllReadyH.cons rfl (fun K hK=>?_) AllReadyH.nil);go_simp;refine (HTG.o _ brf.drew).mono ?_;rintro e w1 ⟨rfl,hb1⟩;have HB1:=zh hb1;clear hb1;try go_wp2_with fail
     refine hK.out _ _ ?_ (fun hHeld=>?_)
     .exact HMC.o _ HB1.o
     clear hK K;try simp only [yD,yE,yF,Act.put,yA,yB,yC]
     refine wpAnyH_ready (rs:=[4]) (by kernel_rfl) (by simp) (AllReadyH.cons rfl (fun K hK=>?_) AllReadyH.nil);go_simp;refine (HTO.o _ HB1.o).mono ?_;rintro e w2 ⟨rfl,hb2⟩;have HB2:=zh hb2;clear hb2;try go_wp2_with fail
     refine hK.out _ _ ?_ (fun hHeld=>?_)
     .exact HMC.o _ HB2.o
     clear hK K;try simp only [yD,yE,yF,Act.put,yA,yB,yC]
     refine tkV 5 ?_ rfl ?_ ?_;rotate_left
     ·(intro w hSw;(try dsimp only at hSw);go_simp;try with_reducible rfl)
     try simp only [yD,yE,yF,Act.put,yA,yB,yC]
     refine tkV 6 ?_ rfl ?_ ?_;rotate_left
     ·(intro w hSw;(try dsimp only at hSw);go_simp;try with_reducible rfl)
     try simp only [yD,yE,yF,Act.put,yA,yB,yC]
     refine tkS 7 rfl ?_;try simp only [yD,yE,yF,Act.put,yA,yB,yC]
     refine tkS 8 rfl ?_;try simp only [yD,yE,yF,Act.put,yA,yB,yC]
     refine tkS 9 rfl ?_;try simp only [yD,yE,yF,Act.put,yA,yB,yC]
     refine tkS 10 rfl ?_;try simp only [yD,yE,yF,Act.put,yA,yB,yC]
     refine tkV 11 ?_ rfl ?_ ?_;rotate_left
     ·(intro w hSw;(try dsimp only at hSw);go_simp;try with_reducible rfl)
     try simp only [yD,yE,yF,Act.put,yA,yB,yC]
     refine wpAnyH_done (by kernel_rfl) ?_ _;have HE:=zh (HBU.o.trans (HB2.o.mono HBU.o.size));clear HTG HTO HMC HB1 HB2;go_wp2;go_ret;exact cU HN.o (HK.o.1.trans (HE.o.mono HK.o.1.size))
  .have HY:=zh (aGr hl c0' hlt hF);clear hB hF;go_wp2;go_ret;exact pN HY.o (HK.o.1.trans (HB.o.mono HK.o.1.size))
theorem aKo {s c k d:Int}(h:lkc ps s c k d=0):((lkL ps s c k d).slots.length:Int)=s/\(1<=c/\c<=64):=by
 have e:lkL ps s c k d=lay ps s c k:=by unfold lkL;rw [if_pos h]
 have h1:=(fU.1 h).1;unfold cfo at h1;simp at h1;have hl:(lay ps s c k).slots.length=s.toNat:=by simp [lay]
 rw [e,hl];exact ⟨by omega,h1.2.2.1,h1.2.2.2.1⟩
theorem mO {P:Prop}{w w':qw}{e:Ending}(h:Yn P w e w')(b:Bool)(hb:b=true ↔ P):e=.returned (.bool b)/\qY w w':=by
 obtain ⟨r,he,hr,hB⟩:=h;have:r=b:=by rw [xJ,hr,hb]
 exact ⟨by rw [he,this],hB⟩
theorem aJd {cs:Int}{rz:qi}(hk:k<xs.length)(h:¬ mU ps L cw T rz xs k):¬ cV ps L cs cw T rz xs:=fun f=>h (f.2 k hk)
theorem aJc {rz:qi}(hF:∀ i,i<k->mU ps L cw T rz xs i)(h:mU ps L cw T rz xs k):∀ i,i<k+1->mU ps L cw T rz xs i:=fun i hi=>by
 by_cases e:i=k
 .rw [e];exact h
 .exact hF i (by omega)
theorem aB5 (M:Mn)(L:Lay)(a0:qO)(c0:Nat)(xs:List PB)(a2:qO)(c2:Nat)(a5:qO)(c5:Nat)(ts:List TB)(w:qw)(h:MnD w M)(hL:LyT w L a0 c0 xs a2 c2 a5 c5 ts)(eL:L=M.L)(hk:lkc (aD M.ms) M.cs M.cw M.ck M.cd=0)(hr:(M.rn:Int)=L.ram):
 qC 158 #[.agg (qA M),.agg (qJ L a0 xs c0 a2 c2 a5 ts c5)] w (Yn (cV (aD M.ms) L M.cs M.cw M.tn M.rz M.lz) w):=by
 obtain ⟨hsl,w0,w1⟩:=aKo hk;have eL':L=lkL (aD M.ms) M.cs M.cw M.ck M.cd:=eL;rw [<- eL'] at hsl;have hl:=h.l.1;have hmx:=h.l.2.1;unfold maxLen at hmx;obtain ⟨U,hU,bU,kU⟩:=nwb w (qA M) 43;obtain ⟨V,hV,bV,kV⟩:=nwb U (qJ L a0 xs c0 a2 c2 a5 ts c5) 71;have BV:=bU.trans (bV.mono bU.size);have kU':=kU.bw bV;have HDV:=zh (h.bw BV);have HSV:=zh (hL.s.bw BV);have HU:=zh hU;have HV:=zh hV;have HB:=zh BV;have HC:=zh (fun (X:qw) (hX:qY V X)=>xA (kU'.bw hX) (kV.bw hX));have y1:=kU'.e1;have y12:=kU'.e12;have HRE:=zh (Below.refl V.heap.size V);have HEQ:=zh (xA eL' (xA hsl (xA hr hk)));clear hU hV bU bV kU kU' kV BV h hL eL eL' hsl hr hk;by_cases c0':¬ (M.ln:Int)=M.cs
 .have HN:Zh (¬ cV (aD M.ms) L M.cs M.cw M.tn M.rz M.lz):=fun f=>c0' (by have:=f.1;omega);have c0'':((M.ln:Int) !=M.cs)=true:=by simp [c0']
  clear c0';go_enter func158,ntmps158
  go_wp2_with (first|rw [<- HU.o]|rw [<- HV.o])
  go_ret;exact cU HN.o HB.o
 replace c0':(M.ln:Int)=M.cs:=xZ.1 c0';have c0'':((M.ln:Int) !=M.cs)=false:=by simp [c0']
 have HCS:=zh c0';clear c0';by_cases cn:M.ln=0
 .have HY:Zh (cV (aD M.ms) L M.cs M.cw M.tn M.rz M.lz):=⟨by have:=HCS.o;omega,fun i hi=>absurd hi (by omega)⟩;have HCN:=zh cn;clear cn;go_enter func158,ntmps158
  go_wp2_with (first|rw [<- HU.o]|rw [<- HV.o])
  go_loopw [17] (fun i wr=>∃ k:Nat,i=qI k/\qY V wr) (fun i _=>0)
  .exact ⟨0,rfl,HRE.o⟩
  .obtain ⟨k,rfl,hB⟩:=hrel;have hlt:¬ ((k:Int)<(M.ln:Int)):=by have:=HCN.o;omega
   have HB2:=zh hB;clear hB;go_wp2;go_ret;exact pN HY.o (HB.o.trans (HB2.o.mono HB.o.size))
 obtain ⟨g,f,hg⟩:∃ g f,M.la=some ⟨g,f,none⟩:=by
  obtain ⟨g,f,hg,_⟩:=HDV.o.l.2.2.1 cn;exact ⟨g,f,hg⟩
 obtain ⟨eL',hsl,hr,hk⟩:=HEQ.o;have HQ:=zh (fun (wr:qw) (hB:qY V wr) (k:Nat) (hk:k<M.ln)=>(HDV.o.l.bw hB).at k hk _ _ _ _ rfl);have HSO:=zh (fun (x0:Bool) (x1 x2 x3:Int) (b:Bool) (hb:b=true ↔ slk (aD M.ms) M.tn (x0,x1,x2,x3)) (X:qw) (hX:qY V X)=>(aD0 M x0 x1 x2 x3 X (HDV.o.bw hX)).mono (fun e w' he=>show e=.returned (.bool b)/\qY X w' from mO he b hb));have HAL:=zh (fun (k:Nat) (hk:k<M.ln) (b:Bool) (hb:b=true ↔ aln M.lz k) (X:qw) (hX:qY V X)=>(aC6 M.la M.ln M.lc k M.lz X (HDV.o.l.bw hX) hk).mono (fun e w' he=>show e=.returned (.bool b)/\qY X w' from mO he b hb));have HSB:=zh (fun (k:Nat) (hi:k<L.slots.length) (X:qw) (hX:qY V X)=>(vI M L a0 c0 xs a2 c2 a5 c5 ts k X (HDV.o.bw hX) (HSV.o.bw hX) hi w0 w1 (by have:=(rW hk (by rw [<- eL'];exact hi)).1;rw [eL'];exact this) (by have:=(rW hk (by rw [<- eL'];exact hi)).2.1;rw [<- eL'] at this;omega) (by have:=(rW hk (by rw [<- eL'];exact hi)).2.2.1;rw [<- eL'] at this;omega)).mono (fun e w' he=>show ∃ a c,e=.returned (qS a (slz M.cw) c)/\BS w' a (slz M.cw) c (slb M.rz L M.cw k)/\qY X w' from he))
 have HBB:=zh (fun (x0:Bool) (x1 x2 x3:Int) (hp:0<=pcq (aD M.ms) x1 x2) (hb:0<=x2) (X:qw) (hX:qY V X)=>(wL M x0 x1 x2 x3 X (HDV.o.bw hX) hk (by have:=HCS.o;omega) hp hb).mono (fun e w' he=>show ∃ g,e=.returned (qS (qP g) (slz M.cw) (slz M.cw))/\BS w' (qP g) (slz M.cw) (slz M.cw) (bkb (aD M.ms) M.cw x1 x2)/\qY X w' from by
  obtain ⟨g,h1,h2,h3⟩:=he
  exact ⟨g,h1,h2.bs,h3⟩))
 try unfold qA at *
 try unfold qL at *
 rw [hg] at HC HSO HAL HSB HBB y12 HU HQ ⊢;have HSN:=zh (show L.slots.length=M.ln by have:=HCS.o;omega);clear cn hg HDV HSV hk eL' hsl hr HEQ;go_enter func158,ntmps158
 go_wp2_with (first|rw [<- HU.o]|rw [<- HV.o])
 clear y1 y12 HU HV;go_loopw [17] (fun i wr=>∃ k:Nat,k<=M.ln/\i=qI k/\(∀ i,i<k->mU (aD M.ms) L M.cw M.tn M.rz M.lz i)/\qY V wr) (qf M.ln)
 .exact ⟨0,xC _,rfl,fun i hi=>absurd hi (by omega),HRE.o⟩
 .obtain ⟨k,hk,rfl,hF,hB⟩:=hrel;by_cases hlt:k<M.ln
  .have hlt':(k:Int)<(M.ln:Int):=by omega
   obtain ⟨g',f',hg',q0,q1,q2,q3⟩:=HQ.o wr hB k hlt;simp at hg';obtain ⟨rfl,rfl⟩:=hg';have HNO:=zh (fun (q:¬ mU (aD M.ms) L M.cw M.tn M.rz M.lz k)=>aJd (cs:=M.cs) (show k<M.lz.length by omega) q);have HST:=zh (fun (q:mU (aD M.ms) L M.cw M.tn M.rz M.lz k)=>aJc hF q);have HOK:Zh (mU (aD M.ms) L M.cw M.tn M.rz M.lz k ↔ slk (aD M.ms) M.tn (M.lz.getD k zSl)/\aln M.lz k/\((M.lz.getD k zSl).1=true->slb M.rz L M.cw k=bkb (aD M.ms) M.cw (M.lz.getD k zSl).2.1 (M.lz.getD k zSl).2.2.1)):=Iff.rfl;generalize M.lz.getD k zSl=x at *;obtain ⟨x0,x1,x2,x3⟩:=x;dsimp only at q0 q1 q2 q3 HOK;obtain ⟨W,hW,bW,kW⟩:=nwb wr #[.bool x0,qI x1,qI x2,qI x3] 142;have BW:=hB.trans (bW.mono hB.size);have HBW:=zh BW;have HW:=zh hW;have HS:=zh (fun (X:qw) (hX:qY W X)=>show Blk X w.heap.size (qX M M.ma M.mn M.mc M.ka M.kn M.kc M.fa M.fn M.fc M.ra M.rn M.rc M.oa M.on M.oc (some (qR g f)) M.ln M.lc M.ha M.hn M.hc) 43/\Blk X U.heap.size (qJ L a0 xs c0 a2 c2 a5 ts c5) 71/\Blk X wr.heap.size #[.bool x0,qI x1,qI x2,qI x3] 142 from ⟨(HC.o X (BW.trans (hX.mono BW.size))).1,(HC.o X (BW.trans (hX.mono BW.size))).2,kW.bw hX⟩);have HVW:=zh (fun (X:qw) (hX:qY W X)=>BW.trans (hX.mono BW.size));have HD:=zh ((Below.refl W.heap.size W).drew);clear hW bW kW BW hB hF HQ HC HRE
   obtain ⟨b1,hb1⟩:∃ b:Bool,b=true ↔ slk (aD M.ms) M.tn (x0,x1,x2,x3):=by
    by_cases c:slk (aD M.ms) M.tn (x0,x1,x2,x3)
    .exact ⟨true,by simp [c]⟩
    .exact ⟨false,by simp [c]⟩
   obtain ⟨b2,hb2⟩:∃ b:Bool,b=true ↔ aln M.lz k:=by
    by_cases c:aln M.lz k
    .exact ⟨true,by simp [c]⟩
    .exact ⟨false,by simp [c]⟩
   obtain ⟨b3,hb3⟩:∃ b:Bool,b=decide (slb M.rz L M.cw k=bkb (aD M.ms) M.cw x1 x2):=⟨_,rfl⟩;have HDE:=zh hb3.symm;have HSO1:=zh (HSO.o x0 x1 x2 x3 b1 hb1);have HAL1:=zh (HAL.o k hlt b2 hb2);have HSB1:=zh (HSB.o k (by rw [HSN.o];exact hlt));have HNA:=zh (fun (e:b1=false)=>HNO.o (fun q=>by have:=hb1.2 (HOK.o.1 q).1;rw [e] at this;cases this));have HNB:=zh (fun (e:b2=false)=>HNO.o (fun q=>by have:=hb2.2 (HOK.o.1 q).2.1;rw [e] at this;cases this));have HNC:=zh (fun (e1:b1=true) (e2:b2=true) (e3:x0=false)=>HST.o (HOK.o.2 ⟨hb1.1 e1,hb2.1 e2,fun q=>by rw [e3] at q;cases q⟩));have HND:=zh (fun (e0:x0=true) (e:b3=false)=>HNO.o (fun q=>by have:=(HOK.o.1 q).2.2 e0;rw [e] at hb3;exact absurd this (of_decide_eq_false hb3.symm)));have HNE:=zh (fun (e1:b1=true) (e2:b2=true) (e3:b3=true)=>HST.o (HOK.o.2 ⟨hb1.1 e1,hb2.1 e2,fun _=>by rw [e3] at hb3;exact of_decide_eq_true hb3.symm⟩))
   have HPP:=zh (fun (e1:b1=true) (e0:x0=true)=>show 0<=pcq (aD M.ms) x1 x2/\0<=x2 from by
    have h1:=hb1.1 e1;rw [e0] at h1;obtain ⟨p2,pq,_⟩:=aF4.1 h1
    exact ⟨pq,p2⟩)
   clear hb1 hb2 hb3 HNO HST HOK HSO HAL HSB;go_wp2_with (rw [<- HW.o])
   refine wp_region_held_drew (S:=(fun X=>Blk X w.heap.size (qX M M.ma M.mn M.mc M.ka M.kn M.kc M.fa M.fn M.fc M.ra M.rn M.rc M.oa M.on M.oc (some (qR g f)) M.ln M.lc M.ha M.hn M.hc) 43/\Blk X U.heap.size (qJ L a0 xs c0 a2 c2 a5 ts c5) 71/\Blk X wr.heap.size #[.bool x0,qI x1,qI x2,qI x3] 142)) (by kernel_rfl) ?_ (fun hHeld=>?_)
   .exact HS.o _ HD.o
   refine tkV 0 _ rfl (fun w hSw=>pF hSw.1 rfl) ?_;try simp only [yD,yE,yF,Act.put,yA,yB,yC]
   refine tkV 1 _ rfl (fun w hSw=>aN8 hSw.2.2 rfl) ?_;try simp only [yD,yE,yF,Act.put,yA,yB,yC]
   refine wpAnyH_ready (rs:=[2]) (by kernel_rfl) (by simp) (AllReadyH.cons rfl (fun K hK=>?_) AllReadyH.nil);go_simp;refine (HSO1.o _ (HVW.o _ HD.o)).mono ?_;rintro e w1 ⟨rfl,hb⟩;have HB1:=zh (HD.o.trans (hb.mono HD.o.size));clear hb;try go_wp2_with fail
   refine hK.out _ _ ?_ (fun hHeld=>?_)
   .exact HS.o _ HB1.o
   clear hK K;try simp only [yD,yE,yF,Act.put,yA,yB,yC]
   cases b1
   focus
    have HN:=zh (HNA.o (by simp));refine tkV 3 ?_ rfl ?_ ?_;rotate_left
    ·(intro w hSw;(try dsimp only at hSw);go_simp;try with_reducible rfl)
    try simp only [yD,yE,yF,Act.put,yA,yB,yC]
    refine tkV 4 ?_ rfl ?_ ?_;rotate_left
    ·(intro w hSw;(try dsimp only at hSw);go_simp;try with_reducible rfl)
    try simp only [yD,yE,yF,Act.put,yA,yB,yC]
    refine tkS 5 rfl ?_;try simp only [yD,yE,yF,Act.put,yA,yB,yC]
    refine tkS 6 rfl ?_;try simp only [yD,yE,yF,Act.put,yA,yB,yC]
    refine tkS 7 rfl ?_;try simp only [yD,yE,yF,Act.put,yA,yB,yC]
    refine tkS 8 rfl ?_;try simp only [yD,yE,yF,Act.put,yA,yB,yC]
    refine tkS 9 rfl ?_;try simp only [yD,yE,yF,Act.put,yA,yB,yC]
    refine tkV 10 ?_ rfl ?_ ?_;rotate_left
    ·(intro w hSw;(try dsimp only at hSw);go_simp;try with_reducible rfl)
    try simp only [yD,yE,yF,Act.put,yA,yB,yC]
    refine tkV 11 ?_ rfl ?_ ?_;rotate_left
    ·(intro w hSw;(try dsimp only at hSw);go_simp;try with_reducible rfl)
    try simp only [yD,yE,yF,Act.put,yA,yB,yC]
    have HBx:=zh HB1.o
   rotate_left;refine tkV 3 ?_ rfl ?_ ?_;rotate_left
   ·(intro w hSw;(try dsimp only at hSw);go_simp;try with_reducible rfl)
   try simp only [yD,yE,yF,Act.put,yA,yB,yC]
   refine tkV 4 ?_ rfl ?_ ?_;rotate_left
   ·(intro w hSw;(try dsimp only at hSw);go_simp;try with_reducible rfl)
   try simp only [yD,yE,yF,Act.put,yA,yB,yC]
   refine tkV 5 ?_ rfl ?_ ?_;rotate_left
   ·(intro w hSw;(try dsimp only at hSw);go_simp;try with_reducible rfl)
   try simp only [yD,yE,yF,Act.put,yA,yB,yC]
   refine tkV 6 _ rfl (fun w hSw=>aN7 (hSw.1.cell 12) rfl) ?_;try simp only [yD,yE,yF,Act.put,yA,yB,yC]
   refine tkV 7 ?_ rfl ?_ ?_;rotate_left
   ·(intro w hSw;(try dsimp only at hSw);go_simp;try with_reducible rfl)
   try simp only [yD,yE,yF,Act.put,yA,yB,yC]
   refine wpAnyH_ready (rs:=[8]) (by kernel_rfl) (by simp) (AllReadyH.cons rfl (fun K hK=>?_) AllReadyH.nil);go_simp;refine (HAL1.o _ (HVW.o _ HB1.o)).mono ?_;rintro e w2 ⟨rfl,hb⟩;have HB2:=zh (HB1.o.trans (hb.mono HB1.o.size));clear hb;try go_wp2_with fail
   refine hK.out _ _ ?_ (fun hHeld=>?_)
   .exact HS.o _ HB2.o
   clear hK K;try simp only [yD,yE,yF,Act.put,yA,yB,yC]
   cases b2
   focus
    have HN:=zh (HNB.o (by simp));refine tkV 9 ?_ rfl ?_ ?_;rotate_left
    ·(intro w hSw;(try dsimp only at hSw);go_simp;try with_reducible rfl)
    try simp only [yD,yE,yF,Act.put,yA,yB,yC]
    refine tkV 10 ?_ rfl ?_ ?_;rotate_left
    ·(intro w hSw;(try dsimp only at hSw);go_simp;try with_reducible rfl)
    try simp only [yD,yE,yF,Act.put,yA,yB,yC]
    refine tkV 11 ?_ rfl ?_ ?_;rotate_left
    ·(intro w hSw;(try dsimp only at hSw);go_simp;try with_reducible rfl)
    try simp only [yD,yE,yF,Act.put,yA,yB,yC]
    have HBx:=zh HB2.o
   rotate_left;refine tkV 9 ?_ rfl ?_ ?_;rotate_left
   ·(intro w hSw;(try dsimp only at hSw);go_simp;try with_reducible rfl)
   try simp only [yD,yE,yF,Act.put,yA,yB,yC]
   refine tkV 10 ?_ rfl ?_ ?_;rotate_left
   ·(intro w hSw;(try dsimp only at hSw);go_simp;try with_reducible rfl)
   try simp only [yD,yE,yF,Act.put,yA,yB,yC]
   refine tkV 11 ?_ rfl ?_ ?_;rotate_left
   ·(intro w hSw;(try dsimp only at hSw);go_simp;try with_reducible rfl)
   try simp only [yD,yE,yF,Act.put,yA,yB,yC]
   refine tkV 12 ?_ rfl ?_ ?_;rotate_left
   ·(intro w hSw;(try dsimp only at hSw);go_simp;try with_reducible rfl)
   try simp only [yD,yE,yF,Act.put,yA,yB,yC]
   refine tkV 13 _ rfl (fun w hSw=>aP8 (hSw.2.2.cell 0) rfl) ?_;try simp only [yD,yE,yF,Act.put,yA,yB,yC]
   refine tkV 14 ?_ rfl ?_ ?_;rotate_left
   ·(intro w hSw;(try dsimp only at hSw);go_simp;try with_reducible rfl)
   try simp only [yD,yE,yF,Act.put,yA,yB,yC]
   cases x0
   focus
    have HN:=zh (HNC.o (by simp) (by simp) (by simp));refine tkS 15 rfl ?_;try simp only [yD,yE,yF,Act.put,yA,yB,yC]
    refine tkS 16 rfl ?_;try simp only [yD,yE,yF,Act.put,yA,yB,yC]
    refine tkS 17 rfl ?_;try simp only [yD,yE,yF,Act.put,yA,yB,yC]
    refine tkS 18 rfl ?_;try simp only [yD,yE,yF,Act.put,yA,yB,yC]
    refine tkS 19 rfl ?_;try simp only [yD,yE,yF,Act.put,yA,yB,yC]
    refine tkS 20 rfl ?_;try simp only [yD,yE,yF,Act.put,yA,yB,yC]
    refine tkS 21 rfl ?_;try simp only [yD,yE,yF,Act.put,yA,yB,yC]
    refine tkS 22 rfl ?_;try simp only [yD,yE,yF,Act.put,yA,yB,yC]
    refine tkS 23 rfl ?_;try simp only [yD,yE,yF,Act.put,yA,yB,yC]
    refine tkV 24 ?_ rfl ?_ ?_;rotate_left
    ·(intro w hSw;(try dsimp only at hSw);go_simp;try with_reducible rfl)
    try simp only [yD,yE,yF,Act.put,yA,yB,yC]
    refine tkV 25 ?_ rfl ?_ ?_;rotate_left
    ·(intro w hSw;(try dsimp only at hSw);go_simp;try with_reducible rfl)
    try simp only [yD,yE,yF,Act.put,yA,yB,yC]
    refine wpAnyH_done (by kernel_rfl) ?_ _;have HE:=zh (HVW.o _ HB2.o);clear HS HVW HD hHeld;go_wp2
    go_roundw
    .exact ⟨k+1,by omega,by go_num,HN.o,HE.o⟩
    .simp [qf,intOf];omega
   obtain ⟨pq,p2⟩:=HPP.o (by simp) (by simp);have HBB1:=zh (HBB.o true x1 x2 x3 pq p2);clear pq p2;refine tkV 15 _ rfl (fun w hSw=>pF hSw.1 rfl) ?_;try simp only [yD,yE,yF,Act.put,yA,yB,yC]
   refine tkV 16 _ rfl (fun w hSw=>aKp hSw.2.1 rfl) ?_;try simp only [yD,yE,yF,Act.put,yA,yB,yC]
   refine tkV 17 ?_ rfl ?_ ?_;rotate_left
   ·(intro w hSw;(try dsimp only at hSw);go_simp;try with_reducible rfl)
   try simp only [yD,yE,yF,Act.put,yA,yB,yC]
   refine tkV 19 _ rfl (fun w hSw=>pF hSw.1 rfl) ?_;try simp only [yD,yE,yF,Act.put,yA,yB,yC]
   refine tkV 20 _ rfl (fun w hSw=>aN8 hSw.2.2 rfl) ?_;try simp only [yD,yE,yF,Act.put,yA,yB,yC]
   refine wpAnyH_ready (rs:=[18]) (by kernel_rfl) (by simp) (AllReadyH.cons rfl (fun K hK=>?_) AllReadyH.nil);go_simp;refine (HSB1.o _ (HVW.o _ HB2.o)).mono ?_;rintro e w3 ⟨sa,sc,rfl,hs,hb⟩;have HB3:=zh (HB2.o.trans (hb.mono HB2.o.size));have HS3:=zh hs;clear hs;clear hb;try go_wp2_with fail
   refine hK.out _ _ ?_ (fun hHeld=>?_)
   .exact HS.o _ HB3.o
   clear hK K;try simp only [yD,yE,yF,Act.put,yA,yB,yC]
   refine wpAnyH_ready (rs:=[21]) (by kernel_rfl) (by simp) (AllReadyH.cons rfl (fun K hK=>?_) AllReadyH.nil);go_simp;refine (HBB1.o _ (HVW.o _ HB3.o)).mono ?_;rintro e w4 ⟨bg,rfl,hs,hb⟩;have HB4:=zh (HB3.o.trans (hb.mono HB3.o.size));have HBE:=zh (kS sa (qP bg) (slz M.cw) sc (slz M.cw) (slz M.cw) _ _ w4 (HS3.o.bw hb) hs);rw [HDE.o] at HBE;clear hs hb HS3;try go_wp2_with fail
   refine hK.out _ _ ?_ (fun hHeld=>?_)
   .exact HS.o _ HB4.o
   clear hK K;try simp only [yD,yE,yF,Act.put,yA,yB,yC]
   refine wpAnyH_ready (rs:=[22]) (by kernel_rfl) (by simp) (AllReadyH.cons rfl (fun K hK=>?_) AllReadyH.nil);go_simp;refine HBE.o.mono ?_;rintro e w5 ⟨rfl,rfl⟩;try go_wp2_with fail
   refine hK.out _ _ ?_ (fun hHeld=>?_)
   .exact HS.o _ HB4.o
   clear hK K;try simp only [yD,yE,yF,Act.put,yA,yB,yC]
   focus
    cases b3
    focus
     have HN:=zh (HND.o (by simp) (by simp))
    rotate_left
    focus
     have HN:=zh (HNE.o (by simp) (by simp) (by simp))
    all_goals
     refine tkV 23 ?_ rfl ?_ ?_;rotate_left
     ·(intro w hSw;(try dsimp only at hSw);go_simp;try with_reducible rfl)
     try simp only [yD,yE,yF,Act.put,yA,yB,yC]
     refine tkV 24 ?_ rfl ?_ ?_;rotate_left
     ·(intro w hSw;(try dsimp only at hSw);go_simp;try with_reducible rfl)
     try simp only [yD,yE,yF,Act.put,yA,yB,yC]
     refine tkV 25 ?_ rfl ?_ ?_;rotate_left
     ·(intro w hSw;(try dsimp only at hSw);go_simp;try with_reducible rfl)
     try simp only [yD,yE,yF,Act.put,yA,yB,yC]
     refine wpAnyH_done (by kernel_rfl) ?_ _;have HE:=zh (HVW.o _ HB4.o);clear HS HVW HD hHeld;go_wp2
    focus
     go_roundw
     .exact ⟨k+1,by omega,by go_num,HN.o,HE.o⟩
     .simp [qf,intOf];omega
    go_ret;exact cU HN.o (HB.o.trans (HE.o.mono HB.o.size))
   all_goals
    refine tkS 12 rfl ?_;try simp only [yD,yE,yF,Act.put,yA,yB,yC]
    refine tkS 13 rfl ?_;try simp only [yD,yE,yF,Act.put,yA,yB,yC]
    refine tkS 14 rfl ?_;try simp only [yD,yE,yF,Act.put,yA,yB,yC]
    refine tkS 15 rfl ?_;try simp only [yD,yE,yF,Act.put,yA,yB,yC]
    refine tkS 16 rfl ?_;try simp only [yD,yE,yF,Act.put,yA,yB,yC]
    refine tkS 17 rfl ?_;try simp only [yD,yE,yF,Act.put,yA,yB,yC]
    refine tkS 18 rfl ?_;try simp only [yD,yE,yF,Act.put,yA,yB,yC]
    refine tkS 19 rfl ?_;try simp only [yD,yE,yF,Act.put,yA,yB,yC]
    refine tkS 20 rfl ?_;try simp only [yD,yE,yF,Act.put,yA,yB,yC]
    refine tkS 21 rfl ?_;try simp only [yD,yE,yF,Act.put,yA,yB,yC]
    refine tkS 22 rfl ?_;try simp only [yD,yE,yF,Act.put,yA,yB,yC]
    refine tkS 23 rfl ?_;try simp only [yD,yE,yF,Act.put,yA,yB,yC]
    refine tkS 24 rfl ?_;try simp only [yD,yE,yF,Act.put,yA,yB,yC]
    refine tkV 25 ?_ rfl ?_ ?_;rotate_left
    ·(intro w hSw;(try dsimp only at hSw);go_simp;try with_reducible rfl)
    try simp only [yD,yE,yF,Act.put,yA,yB,yC]
    refine wpAnyH_done (by kernel_rfl) ?_ _;have HE:=zh (HVW.o _ HBx.o);clear HS HVW HD hHeld;go_wp2;go_ret;exact cU HN.o (HB.o.trans (HE.o.mono HB.o.size))
  .have HY:Zh (cV (aD M.ms) L M.cs M.cw M.tn M.rz M.lz):=⟨by have:=HCS.o;omega,fun i hi=>hF i (by omega)⟩;have HB2:=zh hB;clear hB hF;go_wp2;go_ret;exact pN HY.o (HB.o.trans (HB2.o.mono HB.o.size))
