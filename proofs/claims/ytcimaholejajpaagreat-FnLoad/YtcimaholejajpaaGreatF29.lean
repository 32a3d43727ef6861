import Derived.Test.YtcimaholejajpaaGreatF27
set_option linter.all false
set_option maxHeartbeats 8000000
namespace Go.Proofs.YtcimaholejajpaaGreat
open Go.RowKit
open Go.Proofs.Tryz
set_option maxRecDepth 100000
theorem oR (x0 x1 x2 x3:Int)(w:qw):
 qC 116 #[.agg (qW x0 x1 x2 x3)] w (qB w (.agg (qT x0 x1 x2))):=by
 go_enter func116,ntmps116
 go_wp2;refine bodyPost_ret (v:=.agg (qT x0 x1 x2)) (by simp [results,results116,go_sem]) rfl ⟨rfl,?_⟩;exact bal.alloc (by simp) _
theorem vW (M:Mn)(w:qw)(h:MnD w M):
 qC 63 #[.agg (qA M)] w (Yn (vG (aF M.ms) M.cd M.hz) w):=by
 obtain ⟨V,hV,bV,kV⟩:=nwb w (qA M) 37;have hl:=h.h.1;have hmx:=h.h.2.1;unfold maxLen at hmx;have HDh:=zh (h.h.bw bV);have HDm:=zh (h.m.bw bV);have HV:=zh hV;have HK:=zh (xA bV kV);have HC:=zh (fun (X:qw) (hX:qY V X)=>show X.cell? (qR w.heap.size 0)=some (qS M.ma M.mn M.mc)/\X.cell? (qR w.heap.size 4)=some (qI M.cd)/\X.cell? (qR w.heap.size 13)=some (qS M.ha M.hn M.hc) from ⟨(kV.bw hX).cell 0,(kV.bw hX).cell 4,(kV.bw hX).cell 13⟩);clear hV kV bV h;generalize M.ha=hA at *;obtain ⟨y0,y4,y13⟩:=HC.o V brf;by_cases c0:M.cd<(M.hn:Int)
 .have HN:Zh (¬ vG (aF M.ms) M.cd M.hz):=fun f=>by have:=f.1;omega
  go_enter func63,ntmps63
  go_wp2_with (rw [<- HV.o])
  go_ret;exact jD HN.o (HK.o.1)
 have c0':(M.hn:Int)<=M.cd:=by omega
 have HRE:=zh (Below.refl V.heap.size V);go_enter func63,ntmps63
 go_wp2_with (rw [<- HV.o])
 clear y0 y4 y13;go_loopw [15] (fun i wr=>∃ k:Nat,k<=M.hn/\i=qI k/\(∀ i,i<k->frk (aF M.ms) (M.hz.getD i zFr))/\qY V wr) (qf M.hn)
 .exact ⟨0,xC _,rfl,fun i hi=>absurd hi (by omega),HRE.o⟩
 .obtain ⟨k,hk,rfl,hF,hB⟩:=hrel;have HB:=zh hB;by_cases hlt:k<M.hn
  .have hlt':(k:Int)<(M.hn:Int):=by omega
   obtain ⟨g,f,rfl,q0,q1,q2,q3⟩:=(HDh.o.bw hB).at k hlt _ _ _ _ rfl;have HNO:=zh (fun (q:¬ frk (aF M.ms) (M.hz.getD k zFr))=>aMv (cd:=M.cd) (show k<M.hz.length by omega) q)
   have HST:=zh (fun (q:frk (aF M.ms) (M.hz.getD k zFr)) (i:Nat) (hi:i<k+1)=>show frk (aF M.ms) (M.hz.getD i zFr) from by
    by_cases e:i=k
    .rw [e];exact q
    .exact hF i (by omega))
   generalize M.hz.getD k zFr=x at *;obtain ⟨x0,x1,x2,x3⟩:=x;dsimp only at q0 q1 q2 q3;obtain ⟨U,hU,bU,kU⟩:=nwb wr (qW x0 x1 x2 x3) 79;have BU:=hB.trans (bU.mono hB.size);have HBU:=zh BU;have HU:=zh hU;have HMC:=zh (fun (X:qw) (hX:qY U X)=>show X.cell? (qR w.heap.size 0)=some (qS M.ma M.mn M.mc)/\X.cell? (qR wr.heap.size 0)=some (qI x0)/\X.cell? (qR wr.heap.size 1)=some (qI x1)/\X.cell? (qR wr.heap.size 2)=some (qI x2)/\X.cell? (qR wr.heap.size 3)=some (qI x3) from ⟨(HC.o X (BU.trans (hX.mono BU.size))).1,(kU.bw hX).cell 0,(kU.bw hX).cell 1,(kU.bw hX).cell 2,(kU.bw hX).cell 3⟩);have HTG:=zh (fun (X:qw) (hX:qY U X)=>(oR x0 x1 x2 x3 X).mono (fun e w' he=>show e=.returned (.agg (qT x0 x1 x2))/\qY U w' from ⟨he.1,hX.trans (he.2.mono hX.size)⟩));have HTO:=zh (fun (X:qw) (hX:qY U X)=>(vP M.ma M.mn M.mc M.ms x0 x1 x2 X ((HDm.o.bw BU).bw hX)).mono (fun e w' he=>show e=.returned (.bool (decide (tgk (aF M.ms) x0 x1 x2)))/\qY U w' from ⟨he.1,hX.trans (he.2.mono hX.size)⟩));have HIW:=zh (cA x3);have HFK:Zh (frk (aF M.ms) (x0,x1,x2,x3) ↔ tgk (aF M.ms) x0 x1 x2/\0<=x3/\x3<=4294967295):=Iff.rfl;clear hB hF hU kU bU BU;by_cases c1:tgk (aF M.ms) x0 x1 x2
   .rw [xR c1] at HTO;by_cases c2:0<=x3/\x3<=4294967295
    .rw [xR c2] at HIW;have HY:=zh (HST.o (HFK.o.2 ⟨c1,c2⟩));clear c1 c2;obtain ⟨p0,t0,t1,t2,t3⟩:=HMC.o U brf;go_wp2_with (rw [<- HU.o])
     first|(go_region_held3 (fun w'=>w'.cell? (qR w.heap.size 0)=some (qS M.ma M.mn M.mc)/\w'.cell? (qR wr.heap.size 0)=some (qI x0)/\w'.cell? (qR wr.heap.size 1)=some (qI x1)/\w'.cell? (qR wr.heap.size 2)=some (qI x2)/\w'.cell? (qR wr.heap.size 3)=some (qI x3)) (go_keep)
      (first
        | (go_at_call 116;first
            | with_reducible refine (HTG.o _ brf).mono ?_
            | with_reducible refine (HTG.o _ brf.drew).mono ?_
           rintro e w1 ⟨rfl,hb1⟩;have HB1:=zh hb1;obtain ⟨r0,s0,s1,s2,s3⟩:=HMC.o w1 hb1
           clear hb1)
        | (go_at_call 115;first
            | with_reducible refine (HTO.o _ HB1.o).mono ?_
            | with_reducible refine (HTO.o _ HB1.o.drew).mono ?_
           rintro e w2 ⟨rfl,hb2⟩;have HB2:=zh hb2;obtain ⟨n0,m0,m1,m2,m3⟩:=HMC.o w2 hb2
           clear hb2)
        | (go_at_call 106;refine (HIW.o _).mono ?_;rintro e w3 ⟨rfl,rfl⟩)))|fail
     have HE:=zh (HBU.o.trans (HB2.o.mono HBU.o.size));clear p0 t0 t1 t2 t3 r0 s0 s1 s2 s3 n0 m0 m1 m2 m3 HTG HTO HMC HB1 HB2;go_wp2
     go_roundw
     .exact ⟨k+1,by omega,by go_num,HY.o,HE.o⟩
     .simp [qf,intOf];omega
    .rw [xS c2] at HIW;have HN:=zh (HNO.o (fun f=>c2 (HFK.o.1 f).2));clear c1 c2;obtain ⟨p0,t0,t1,t2,t3⟩:=HMC.o U brf;go_wp2_with (rw [<- HU.o])
     first|(go_region_held3 (fun w'=>w'.cell? (qR w.heap.size 0)=some (qS M.ma M.mn M.mc)/\w'.cell? (qR wr.heap.size 0)=some (qI x0)/\w'.cell? (qR wr.heap.size 1)=some (qI x1)/\w'.cell? (qR wr.heap.size 2)=some (qI x2)/\w'.cell? (qR wr.heap.size 3)=some (qI x3)) (go_keep)
      (first
        | (go_at_call 116;first
            | with_reducible refine (HTG.o _ brf).mono ?_
            | with_reducible refine (HTG.o _ brf.drew).mono ?_
           rintro e w1 ⟨rfl,hb1⟩;have HB1:=zh hb1;obtain ⟨r0,s0,s1,s2,s3⟩:=HMC.o w1 hb1
           clear hb1)
        | (go_at_call 115;first
            | with_reducible refine (HTO.o _ HB1.o).mono ?_
            | with_reducible refine (HTO.o _ HB1.o.drew).mono ?_
           rintro e w2 ⟨rfl,hb2⟩;have HB2:=zh hb2;obtain ⟨n0,m0,m1,m2,m3⟩:=HMC.o w2 hb2
           clear hb2)
        | (go_at_call 106;refine (HIW.o _).mono ?_;rintro e w3 ⟨rfl,rfl⟩)))|fail
     have HE:=zh (HBU.o.trans (HB2.o.mono HBU.o.size));clear p0 t0 t1 t2 t3 r0 s0 s1 s2 s3 n0 m0 m1 m2 m3 HTG HTO HMC HB1 HB2;go_wp2;go_ret;exact jD HN.o (HK.o.1.trans (HE.o.mono HK.o.1.size))
   .rw [xS c1] at HTO
    .have HN:=zh (HNO.o (fun f=>c1 (HFK.o.1 f).1));clear c1;go_wp2_with (rw [<- HU.o])
     refine wp_region_held_drew (S:=(fun w'=>w'.cell? (qR w.heap.size 0)=some (qS M.ma M.mn M.mc)/\w'.cell? (qR wr.heap.size 0)=some (qI x0)/\w'.cell? (qR wr.heap.size 1)=some (qI x1)/\w'.cell? (qR wr.heap.size 2)=some (qI x2)/\w'.cell? (qR wr.heap.size 3)=some (qI x3))) (by kernel_rfl) ?_ (fun hHeld=>?_)
     .exact HMC.o _ brf.drew
     refine tkV 0 ?_ rfl ?_ ?_;rotate_left
     ·(intro w hSw;(try dsimp only at hSw);go_simp;try with_reducible rfl)
     try simp only [yD,yE,yF,Act.put,yA,yB,yC]
     refine tkV 1 ?_ rfl ?_ ?_;rotate_left
     ·(intro w hSw;(try dsimp only at hSw);go_simp;try with_reducible rfl)
     try simp only [yD,yE,yF,Act.put,yA,yB,yC]
     refine tkV 2 ?_ rfl ?_ ?_;rotate_left
     ·(intro w hSw;(try dsimp only at hSw);go_simp;try with_reducible rfl)
     try simp only [yD,yE,yF,Act.put,yA,yB,yC]
     refine wpAnyH_ready (rs:=[3]) (by kernel_rfl) (by simp) (AllReadyH.cons rfl (fun K hK=>?_) AllReadyH.nil);go_simp;refine (HTG.o _ brf.drew).mono ?_;rintro e w1 ⟨rfl,hb1⟩;have HB1:=zh hb1;clear hb1;try go_wp2_with fail
     refine hK.out _ _ ?_ (fun hHeld=>?_)
     .exact HMC.o _ HB1.o
     clear hK K;try simp only [yD,yE,yF,Act.put,yA,yB,yC]
     refine wpAnyH_ready (rs:=[4]) (by kernel_rfl) (by simp) (AllReadyH.cons rfl (fun K hK=>?_) AllReadyH.nil);go_simp;refine (HTO.o _ HB1.o).mono ?_;rintro e w2 ⟨rfl,hb2⟩;have HB2:=zh hb2;clear hb2;try go_wp2_with fail
     refine hK.out _ _ ?_ (fun hHeld=>?_)
     .exact HMC.o _ HB2.o
     clear hK K;try simp only [yD,yE,yF,Act.put,yA,yB,yC]
     refine tkV 5 ?_ rfl ?_ ?_;rotate_left
     ·(intro w hSw;(try dsimp only at hSw);go_simp;try with_reducible rfl)
     try simp only [yD,yE,yF,Act.put,yA,yB,yC]
     refine tkV 6 ?_ rfl ?_ ?_;rotate_left
     ·(intro w hSw;(try dsimp only at hSw);go_simp;try with_reducible rfl)
     try simp only [yD,yE,yF,Act.put,yA,yB,yC]
     refine tkS 7 rfl ?_;try simp only [yD,yE,yF,Act.put,yA,yB,yC]
     refine tkS 8 rfl ?_;try simp only [yD,yE,yF,Act.put,yA,yB,yC]
     refine tkS 9 rfl ?_;try simp only [yD,yE,yF,Act.put,yA,yB,yC]
     refine tkS 10 rfl ?_;try simp only [yD,yE,yF,Act.put,yA,yB,yC]
     refine tkV 11 ?_ rfl ?_ ?_;rotate_left
     ·(intro w hSw;(try dsimp only at hSw);go_simp;try with_reducible rfl)
     try simp only [yD,yE,yF,Act.put,yA,yB,yC]
     refine wpAnyH_done (by kernel_rfl) ?_ _;have HE:=zh (HBU.o.trans (HB2.o.mono HBU.o.size));clear HTG HTO HMC HB1 HB2;go_wp2;go_ret;exact jD HN.o (HK.o.1.trans (HE.o.mono HK.o.1.size))
  .have HY:=zh (aKk hl c0' hlt hF);clear hB hF;go_wp2;go_ret;exact aBm HY.o (HK.o.1.trans (HB.o.mono HK.o.1.size))
