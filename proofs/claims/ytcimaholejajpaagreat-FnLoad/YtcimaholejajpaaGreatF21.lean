import Derived.Test.YtcimaholejajpaaGreatF14
import Derived.Test.YtcimaholejajpaaGreatF20
set_option linter.all false
set_option maxHeartbeats 8000000
namespace Go.Proofs.YtcimaholejajpaaGreat
open Go.RowKit
set_option maxRecDepth 100000
variable {c e g j n q:Nat}{x:Int}
abbrev MDm (W:qw)(P:PMod)(M:Ma):Prop:=MD W P.nm M.a1 P.tz.length M.c1 P.tz M.a2 M.bl.length M.c2 M.bl M.a3 P.dz.length M.c3 P.dz P.bss M.a5 P.rz.length M.c5 P.rz M.a6 P.ss.length M.c6 P.ss M.a7 P.es.length M.c7 P.es
theorem oT (P:PMod)(M N:Ma)(w:qw)(h:MDm w P M)(h':MDm w P N)(hb:M.bl.map (fun B=>B.2.2.2)=P.bl)(hb':N.bl.map (fun B=>B.2.2.2)=P.bl)(hl1:M.bl.length<=100)(hl2:P.ss.length<=100)(hl3:P.es.length<=100):
 qC 30 #[.agg (qM P.nm M.a1 P.tz.length M.c1 M.a2 M.bl.length M.c2 M.a3 P.dz.length M.c3 P.bss M.a5 P.rz.length M.c5 M.a6 P.ss.length M.c6 M.a7 P.es.length M.c7),.agg (qM P.nm N.a1 P.tz.length N.c1 N.a2 N.bl.length N.c2 N.a3 P.dz.length N.c3 P.bss N.a5 P.rz.length N.c5 N.a6 P.ss.length N.c6 N.a7 P.es.length N.c7)] w (qB w (.bool true)):=by
 obtain ⟨W0,hW0⟩:=eqx ((w.alloc (.cells (qM P.nm M.a1 P.tz.length M.c1 M.a2 M.bl.length M.c2 M.a3 P.dz.length M.c3 P.bss M.a5 P.rz.length M.c5 M.a6 P.ss.length M.c6 M.a7 P.es.length M.c7) 53)).alloc (.cells (qM P.nm N.a1 P.tz.length N.c1 N.a2 N.bl.length N.c2 N.a3 P.dz.length N.c3 P.bss N.a5 P.rz.length N.c5 N.a6 P.ss.length N.c6 N.a7 P.es.length N.c7) 53))
 have F0:qY w W0/\Blk W0 w.heap.size (qM P.nm M.a1 P.tz.length M.c1 M.a2 M.bl.length M.c2 M.a3 P.dz.length M.c3 P.bss M.a5 P.rz.length M.c5 M.a6 P.ss.length M.c6 M.a7 P.es.length M.c7) 53/\Blk W0 (w.heap.size+1) (qM P.nm N.a1 P.tz.length N.c1 N.a2 N.bl.length N.c2 N.a3 P.dz.length N.c3 P.bss N.a5 P.rz.length N.c5 N.a6 P.ss.length N.c6 N.a7 P.es.length N.c7) 53:=by
  rw [hW0];refine ⟨bal.alloc (by simp) _,(Blk.new w _ _).alloc _,?_⟩;have k2:=Blk.new (w.alloc (.cells (qM P.nm M.a1 P.tz.length M.c1 M.a2 M.bl.length M.c2 M.a3 P.dz.length M.c3 P.bss M.a5 P.rz.length M.c5 M.a6 P.ss.length M.c6 M.a7 P.es.length M.c7) 53)) (qM P.nm N.a1 P.tz.length N.c1 N.a2 N.bl.length N.c2 N.a3 P.dz.length N.c3 P.bss N.a5 P.rz.length N.c5 N.a6 P.ss.length N.c6 N.a7 P.es.length N.c7) 53;simpa only [xF] using k2
 have hNl:N.bl.length=M.bl.length:=by have h1:=congrArg List.length hb;have h2:=congrArg List.length hb';rw [xH] at h1 h2;omega
 have HG:=zh (fun (i:Nat)=>show (M.bl.getD i zB).2.2.2=(N.bl.getD i zB).2.2.2 by
  have e1:(M.bl.map (fun B=>B.2.2.2))[i]?=(N.bl.map (fun B=>B.2.2.2))[i]?:=by rw [hb,hb']
  rw [List.getElem?_map,List.getElem?_map] at e1;rw [xB,xB];cases e2:M.bl[i]?<;>cases e3:N.bl[i]?<;>rw [e2,e3] at e1<;>simp at e1 ⊢
  exact e1)
 have HNL:=zh hNl;have HF0:=zh F0;obtain ⟨B0,K0,K1⟩:=F0;have HK:=zh (fun (X:qw) (b:qY W0 X)=>xA (K0.bw b) (K1.bw b));have HH:=zh (fun (X:qw) (b:qY W0 X)=>xA (MD.bw (MD.bw h B0) b) (MD.bw (MD.bw h' B0) b));obtain ⟨a0,a1,a2,a3,a4,a5,a6,a7⟩:=K0.eight';obtain ⟨d0,d1,d2,d3,d4,d5,d6,d7⟩:=K1.eight';have hB0:=zh B0;rw [hW0] at a0 a1 a2 a3 a4 a5 a6 a7 d0 d1 d2 d3 d4 d5 d6 d7;have HW0:=zh hW0;clear K0 K1 B0 h h' hb hb' HF0 hNl hW0;go_enter Tryz.func30,Tryz.ntmps30
 go_wp2_with fail
 rw [<- HW0.o];have H0:=HH.o W0 brf;refine (iE M.a1 N.a1 P.tz.length M.c1 P.tz.length N.c1 P.tz P.tz W0 H0.1.t H0.2.t).mono ?_;rintro e w1 ⟨he,hb1⟩;rw [xR rfl] at he;subst he;clear H0 a0 a1 a2 a3 a4 a5 a6 a7 d0 d1 d2 d3 d4 d5 d6 d7;obtain ⟨K0,K1⟩:=HK.o w1 hb1;obtain ⟨a0,a1,a2,a3,a4,a5,a6,a7⟩:=K0.eight';obtain ⟨d0,d1,d2,d3,d4,d5,d6,d7⟩:=K1.eight';clear K0 K1;go_wp2_with fail
 have H1:=HH.o w1 hb1;refine (iE M.a5 N.a5 P.rz.length M.c5 P.rz.length N.c5 P.rz P.rz w1 H1.1.r H1.2.r).mono ?_;rintro e w2 ⟨he,hb2'⟩;rw [xR rfl] at he;subst he;have hb2:=hb1.trans (hb2'.mono hb1.size);clear H1 hb2' hb1;clear a0 a1 a2 a3 a4 a5 a6 a7 d0 d1 d2 d3 d4 d5 d6 d7;obtain ⟨K0,K1⟩:=HK.o w2 hb2;obtain ⟨a0,a1,a2,a3,a4,a5,a6,a7⟩:=K0.eight';obtain ⟨d0,d1,d2,d3,d4,d5,d6,d7⟩:=K1.eight';clear K0 K1;go_wp2_with fail
 have H1:=HH.o w2 hb2;refine (gF M.a3 N.a3 P.dz.length M.c3 P.dz.length N.c3 P.dz P.dz w2 H1.1.d H1.2.d).mono ?_;rintro e w3 ⟨he,hb3'⟩;rw [xR rfl] at he;subst he;have hb3:=hb2.trans (hb3'.mono hb2.size);clear H1 hb3' hb2;clear a0 a1 a2 a3 a4 a5 a6 a7 d0 d1 d2 d3 d4 d5 d6 d7;obtain ⟨K0,K1⟩:=HK.o w3 hb3;obtain ⟨a0,a1,a2,a3,a4,a5,a6,a7⟩:=K0.eight';obtain ⟨d0,d1,d2,d3,d4,d5,d6,d7⟩:=K1.eight';clear K0 K1;rw [HNL.o] at d2;have HB3:=zh hb3;clear hb3;go_wp2;go_loopw [5] (fun i wr=>∃ j:Nat,j<=M.bl.length/\i=qI j/\qY W0 wr) (qf M.bl.length)
 .exact ⟨0,xC _,rfl,HB3.o⟩
 .obtain ⟨j,hj,rfl,hb⟩:=hrel;generalize wr=wr1 at *;clear a0 a1 a2 a3 a4 a5 a6 a7 d0 d1 d2 d3 d4 d5 d6 d7;obtain ⟨K0,K1⟩:=HK.o wr1 hb;obtain ⟨a0,a1,a2,a3,a4,a5,a6,a7⟩:=K0.eight';obtain ⟨d0,d1,d2,d3,d4,d5,d6,d7⟩:=K1.eight';clear K0 K1;rw [HNL.o] at d2;have HB:=zh hb;have H:=HH.o wr1 hb;clear hb HB3;by_cases hlt:j<M.bl.length
  .have hlt':(j:Int)<(M.bl.length:Int):=by omega
   have b1:=H.1.b;have b2:=H.2.b;rw [HNL.o] at b2;obtain ⟨x1,o1,e1⟩:=b1.addr (by omega);obtain ⟨x2,o2,e2⟩:=b2.addr (by omega);rw [e1] at b1 a2;rw [e2] at b2 d2;have c1:=b1.at j hlt;have c2:=b2.at j hlt;have HI1:=zh (b1.2.2.2.1 j hlt);have HI2:=zh (b2.2.2.2.1 j hlt);have hg:=HG.o j;have HGJ:=zh hg;clear H b1 b2 e1 e2 hg;generalize M.bl.getD j zB=X1 at *;generalize N.bl.getD j zB=X2 at *;obtain ⟨q1,m1,r1,l1⟩:=X1;obtain ⟨q2,m2,r2,l2⟩:=X2;dsimp only at c1 c2 HI1 HI2 HGJ;go_wp2_with fail
   go_region_law (first
    | (go_simp;go_at_call 28;refine (iE _ _ _ _ _ _ _ _ _ (by first|exact HI1.o|exact HI1.o.bw brf.drew) (by first|exact HI2.o|exact HI2.o.bw brf.drew)).mono ?_;rintro e wa ⟨he,hba⟩;rw [HGJ.o,xR rfl] at he;subst he))
   all_goals
    have HBA:Zh (qY W0 wa):=(by first|exact HB.o.trans (hba.mono HB.o.size)|exact HB.o.drew.trans (hba.mono HB.o.size));clear hba HB c1 c2 HI1 HI2;go_wp2
    go_roundw
    .exact ⟨j+1,by omega,by go_num,HBA.o⟩
    .simp [qf,intOf];omega
  .have hlt':¬ (j:Int)<(M.bl.length:Int):=by omega
   clear H;go_wp2;go_loopw [6] (fun i wr=>∃ j:Nat,j<=P.ss.length/\i=qI j/\qY W0 wr) (qf P.ss.length)
   .exact ⟨0,xC _,rfl,HB.o⟩
   .obtain ⟨j2,hj2,rfl,hb⟩:=hrel;generalize wr=wr2 at *;clear a0 a1 a2 a3 a4 a5 a6 a7 d0 d1 d2 d3 d4 d5 d6 d7;obtain ⟨K0,K1⟩:=HK.o wr2 hb;obtain ⟨a0,a1,a2,a3,a4,a5,a6,a7⟩:=K0.eight';obtain ⟨d0,d1,d2,d3,d4,d5,d6,d7⟩:=K1.eight';clear K0 K1;have H:=HH.o wr2 hb;have HBa:=zh hb;clear hb HB;by_cases hlt:j2<P.ss.length
    .have hlt':(j2:Int)<(P.ss.length:Int):=by omega
     have b1:=H.1.i;have b2:=H.2.i;obtain ⟨x1,o1,e1⟩:=b1.addr (by omega);obtain ⟨x2,o2,e2⟩:=b2.addr (by omega);rw [e1] at b1 a6;rw [e2] at b2 d6;have c1:=b1.at j2 hlt;have c2:=b2.at j2 hlt;clear H b1 b2 e1 e2;generalize P.ss.getD j2 zS=sx at *;go_wp2_with fail
     go_region_law (fail)
     all_goals
      have HBA:Zh (qY W0 wr2.drew):=HBa.o.drew;go_wp2
      go_roundw
      .exact ⟨j2+1,by omega,by go_num,(by first|exact HBa.o|exact HBA.o)⟩
      .simp [qf,intOf];omega
    .have hlt':¬ (j2:Int)<(P.ss.length:Int):=by omega
     clear H;go_wp2;go_loopw [7] (fun i wr=>∃ j:Nat,j<=P.es.length/\i=qI j/\qY W0 wr) (qf P.es.length)
     .exact ⟨0,xC _,rfl,HBa.o⟩
     .obtain ⟨j3,hj3,rfl,hb⟩:=hrel;generalize wr=wr3 at *;clear a0 a1 a2 a3 a4 a5 a6 a7 d0 d1 d2 d3 d4 d5 d6 d7;obtain ⟨K0,K1⟩:=HK.o wr3 hb;obtain ⟨a0,a1,a2,a3,a4,a5,a6,a7⟩:=K0.eight';obtain ⟨d0,d1,d2,d3,d4,d5,d6,d7⟩:=K1.eight';clear K0 K1;have H:=HH.o wr3 hb;have HBb:=zh hb;clear hb HBa;by_cases hlt:j3<P.es.length
      .have hlt':(j3:Int)<(P.es.length:Int):=by omega
       have b1:=H.1.e;have b2:=H.2.e;obtain ⟨x1,o1,e1⟩:=b1.addr (by omega);obtain ⟨x2,o2,e2⟩:=b2.addr (by omega);rw [e1] at b1 a7;rw [e2] at b2 d7;obtain ⟨c1,c2,c3⟩:=b1.at j3 hlt;obtain ⟨c4,c5,c6⟩:=b2.at j3 hlt;clear H b1 b2 e1 e2;generalize P.es.getD j3 zE=X at *;obtain ⟨s1,s2,s3⟩:=X;dsimp only at c1 c2 c3 c4 c5 c6;go_wp2_with fail
       go_region_law (fail)
       all_goals
        have HBA:Zh (qY W0 wr3.drew):=HBb.o.drew;go_wp2
        go_roundw
        .exact ⟨j3+1,by omega,by go_num,(by first|exact HBb.o|exact HBA.o)⟩
        .simp [qf,intOf];omega
      .have hlt':¬ (j3:Int)<(P.es.length:Int):=by omega
       clear H;go_wp2;go_ret;exact ⟨rfl,hB0.o.trans (HBb.o.mono hB0.o.size)⟩
theorem uK (m m':Md)(w:qw)(h:m.md w)(h':m'.md w)(hs:aM7 m m')(hv:m.bn<=100/\m.im<=100/\m.en<=100):qC 30 #[.agg m.cells,.agg m'.cells] w (qB w (.bool true)):=by
 obtain ⟨nm,ta,tn,tc,tz,ba,bn,bc,bl,da,dn,dc,dz,bss,ra,rn,rc,rz,ia,im,ic,ss,ea,en,ec,es⟩:=m;obtain ⟨nm',ta',tn',tc',tz',ba',bn',bc',bl',da',dn',dc',dz',bss',ra',rn',rc',rz',ia',im',ic',ss',ea',en',ec',es'⟩:=m';unfold Md.md at h h';unfold aM7 at hs;dsimp only at h h' hs hv;obtain ⟨rfl,rfl,rfl,rfl,hb,rfl,rfl,rfl,rfl,rfl,rfl,rfl,rfl,rfl⟩:=hs;obtain rfl:=h.t.1;obtain rfl:=h.b.1;obtain rfl:=h.d.1;obtain rfl:=h.r.1;obtain rfl:=h.i.1;obtain rfl:=h.e.1;have hl:=h'.b.1
 have he:bl'.map (fun B=>B.2.2.2)=bl.map (fun B=>B.2.2.2):=by
  apply List.ext_getElem
  .simp [hl]
  .intro i h1 h2;simp at h1 h2;have:=(hb i (by omega)).2;simpa [xB,show i<bl.length by omega,show i<bl'.length by omega] using this
 have:=oT ⟨nm,tz,bl.map (fun B=>B.2.2.2),dz,bss,rz,ss,es⟩ ⟨ta,tc,ba,bc,bl,da,dc,ra,rc,ia,ic,ea,ec⟩ ⟨ta',tc',ba',bc',bl',da',dc',ra',rc',ia',ic',ea',ec'⟩ w h (by unfold MDm;dsimp only;rw [hl];exact h') rfl he hv.1 hv.2.1 hv.2.2;dsimp only at this;rw [hl] at this;exact this
theorem nV (M N:Mn)(w:qw)(h:MnD w M)(h':MnD w N)(hs:Sam M N)(hh:M.hn=0)(hn:M.mn<=4)(hl:M.ln<=4)(hv:∀ i,i<M.mn->(M.ms.getD i zMd).bn<=100/\(M.ms.getD i zMd).im<=100/\(M.ms.getD i zMd).en<=100):qC 8 #[.agg (qA M),.agg (qA N)] w (qB w (.bool true)):=by
 obtain ⟨⟨s1,s2,s3,s4,s5,s6,s7,s8⟩,⟨n1,n2,n3,n4,n5,n6,n7⟩,⟨z1,z2,z3,z4,z5,z6⟩,hm⟩:=hs;obtain ⟨U,hU⟩:=eqx ((w.alloc (.cells (qA M) 37)).alloc (.cells (qA N) 37));have bU:qY w U:=by rw [hU];exact bal.alloc (by simp) _
 have kM:Blk U w.heap.size (qA M) 37:=by rw [hU];exact (Blk.new _ _ _).alloc _
 have kN:Blk U (w.heap.size+1) (qA N) 37:=by rw [hU];have:=Blk.new (w.alloc (.cells (qA M) 37)) (qA N) 37;simpa only [xF] using this
 have eN:(qA N:Array Value)=#[qS N.ma M.mn N.mc,qI M.cs,qI M.cw,qI M.ck,qI M.cd,qI M.pc,qS N.ka M.kn N.kc,qS N.fa M.fn N.fc,qS N.ra M.rn N.rc,qS N.oa M.on N.oc,qI M.md,qI M.bk,qS N.la M.ln N.lc,qS N.ha M.hn N.hc,qI M.tn]:=by
  unfold qA;rw [s1,s2,s3,s4,s5,s6,s7,s8,n1,n2,n3,n4,n5,n6,n7]
 rw [eN] at kN;have HC:=zh (fun (X:qw) (hX:qY U X)=>xA (kM.bw hX).mc (kN.bw hX).mc);have HD:=zh (fun (X:qw) (hX:qY U X)=>xA ((h.bw bU).bw hX) ((h'.bw bU).bw hX))
 have HSN:=zh (fun (X:qw) (hX:qY U X)=>show qC 28 #[qS M.ka M.kn M.kc,qS N.ka M.kn N.kc] X (fun e w'=>e=.returned (.bool true)/\qY U w') from by
  have a:=(HD.o X hX).2.k;rw [n2,z1] at a;have:=fN M.ka N.ka M.kn M.kc M.kn N.kc M.kz M.kz X (HD.o X hX).1.k a;rw [show decide (M.kz=M.kz)=true by simp] at this
  exact this.mono (fun e w' he=>⟨he.1,hX.trans (he.2.mono hX.size)⟩))
 have HSM:=zh (fun (X:qw) (hX:qY U X)=>show qC 29 #[.agg (qV M.fa M.fn M.fc M.ra M.rn M.rc M.oa M.on M.oc),.agg (qV N.fa M.fn N.fc N.ra M.rn N.rc N.oa M.on N.oc)] X (fun e w'=>e=.returned (.bool true)/\qY U w') from by
  have a1:=(HD.o X hX).2.f;have a2:=(HD.o X hX).2.r;have a3:=(HD.o X hX).2.o;rw [n3,z2] at a1;rw [n4,z3] at a2;rw [n5,z4] at a3
  exact (vX M.fa M.ra M.oa N.fa N.ra N.oa M.fn M.fc M.rn M.rc M.on M.oc N.fc N.rc N.oc M.fz M.rz M.oz X (HD.o X hX).1.f (HD.o X hX).1.r (HD.o X hX).1.o a1 a2 a3).mono (fun e w' he=>⟨he.1,hX.trans (he.2.mono hX.size)⟩))
 have HMD:=zh (fun (X:qw) (hX:qY U X) (i:Nat) (hi:i<M.mn)=>uK (M.ms.getD i zMd) (N.ms.getD i zMd) X ((HD.o X hX).1.m.d i hi) ((HD.o X hX).2.m.d i (by rw [n1];exact hi)) (hm i hi) (hv i hi));have HNN:=zh (xA n1 (xA n6 z5));have HB:=zh bU;have HU:=zh hU;obtain ⟨⟨m0,m1,m2,m3,m4,m5,m6,m7,m8,m9,m10,m11,m12,m13,m14⟩,p0,p1,p2,p3,p4,p5,p6,p7,p8,p9,p10,p11,p12,p13,p14⟩:=HC.o U brf;clear hU bU kM kN eN h h' hm hv s1 s2 s3 s4 s5 s6 s7 s8 n1 n2 n3 n4 n5 n6 n7 z1 z2 z3 z4 z5 z6;go_enter Tryz.func8,Tryz.ntmps8
 go_wp2_with (rw [<- HU.o])
 refine (HSN.o U brf).mono ?_;rintro e X1 ⟨rfl,hb1⟩;clear m0 m1 m2 m3 m4 m5 m6 m7 m8 m9 m10 m11 m12 m13 m14 p0 p1 p2 p3 p4 p5 p6 p7 p8 p9 p10 p11 p12 p13 p14;obtain ⟨⟨m0,m1,m2,m3,m4,m5,m6,m7,m8,m9,m10,m11,m12,m13,m14⟩,p0,p1,p2,p3,p4,p5,p6,p7,p8,p9,p10,p11,p12,p13,p14⟩:=HC.o X1 hb1;have HS1:=zh (HSM.o X1 hb1);clear hb1 HSN HSM HU;go_wp2_with fail
 refine HS1.o.mono ?_;rintro e X2 ⟨rfl,hb2⟩;clear m0 m1 m2 m3 m4 m5 m6 m7 m8 m9 m10 m11 m12 m13 m14 p0 p1 p2 p3 p4 p5 p6 p7 p8 p9 p10 p11 p12 p13 p14 HS1;obtain ⟨⟨m0,m1,m2,m3,m4,m5,m6,m7,m8,m9,m10,m11,m12,m13,m14⟩,p0,p1,p2,p3,p4,p5,p6,p7,p8,p9,p10,p11,p12,p13,p14⟩:=HC.o X2 hb2;have HB2:=zh hb2;clear hb2;go_wp2_with fail
 clear m0 m1 m2 m3 m4 m5 m6 m7 m8 m9 m10 m11 m12 m13 m14 p0 p1 p2 p3 p4 p5 p6 p7 p8 p9 p10 p11 p12 p13 p14;go_loopw [5] (fun i wr=>∃ k:Nat,k<=M.mn/\i=qI k/\qY U wr) (qf M.mn)
 .exact ⟨0,xC _,rfl,HB2.o⟩
 .obtain ⟨k,hk,rfl,hb⟩:=hrel;clear HB2;have HBr:=zh hb;have m0:=(HC.o wr hb).1.1;have p0:=(HC.o wr hb).2.1;by_cases hlt:k<M.mn
  .have hlt':(k:Int)<(M.mn:Int):=by omega
   obtain ⟨b1,o1,e1,A1⟩:=(HD.o wr hb).1.m.s.at k hlt;obtain ⟨b2,o2,e2,A2⟩:=(HD.o wr hb).2.m.s.at k (by rw [HNN.o.1];exact hlt);rw [e1] at m0;rw [e2] at p0;have HCC:=zh (fun (X:qw) (hX:qY wr X)=>xA (aE hX m0) (xA (aE hX p0) (xA (A1.bw hX) (A2.bw hX))));have HM1:=zh (fun (X:qw) (hX:qY wr X)=>(HMD.o X (hb.trans (hX.mono hb.size)) k hlt).mono (fun e w' he=>show e=.returned (.bool true)/\qY wr w' from ⟨he.1,hX.trans (he.2.mono hX.size)⟩));have HBQ:=zh hb;unfold Md.cells at HM1;clear e1 e2 A1 A2 hb HD HC HBr;generalize M.ms.getD k zMd=x at *;generalize N.ms.getD k zMd=y at *;obtain ⟨_,_,⟨a0,a1,a2,a3,a4,a5,a6,a7⟩,c0,c1,c2,c3,c4,c5,c6,c7⟩:=HCC.o wr brf;go_wp2_with fail
   go_region_held3 (fun w'=>w'.cell? (qR w.heap.size 0)=some (qS (some (qR b1 o1)) M.mn M.mc)/\w'.cell? (qR (w.heap.size+1) 0)=some (qS (some (qR b2 o2)) M.mn N.mc)/\(w'.cell? (qR b1 (o1+k*8))=some (.string x.nm)/\w'.cell? (qR b1 (o1+k*8+1))=some (qS x.ta x.tn x.tc)/\w'.cell? (qR b1 (o1+k*8+2))=some (qS x.ba x.bn x.bc)/\w'.cell? (qR b1 (o1+k*8+3))=some (qS x.da x.dn x.dc)/\w'.cell? (qR b1 (o1+k*8+4))=some (qI x.bss)/\w'.cell? (qR b1 (o1+k*8+5))=some (qS x.ra x.rn x.rc)/\w'.cell? (qR b1 (o1+k*8+6))=some (qS x.ia x.im x.ic)/\w'.cell? (qR b1 (o1+k*8+7))=some (qS x.ea x.en x.ec))/\w'.cell? (qR b2 (o2+k*8))=some (.string y.nm)/\w'.cell? (qR b2 (o2+k*8+1))=some (qS y.ta y.tn y.tc)/\w'.cell? (qR b2 (o2+k*8+2))=some (qS y.ba y.bn y.bc)/\w'.cell? (qR b2 (o2+k*8+3))=some (qS y.da y.dn y.dc)/\w'.cell? (qR b2 (o2+k*8+4))=some (qI y.bss)/\w'.cell? (qR b2 (o2+k*8+5))=some (qS y.ra y.rn y.rc)/\w'.cell? (qR b2 (o2+k*8+6))=some (qS y.ia y.im y.ic)/\w'.cell? (qR b2 (o2+k*8+7))=some (qS y.ea y.en y.ec)) (go_keep)
    (first
      | (go_at_call 30;first
          | with_reducible refine (HM1.o _ brf).mono ?_
          | with_reducible refine (HM1.o _ brf.drew).mono ?_
         rintro e X3 ⟨rfl,hb3⟩;have HB3:=zh (HBQ.o.trans (hb3.mono HBQ.o.size));obtain ⟨m0,p0,⟨a0,a1,a2,a3,a4,a5,a6,a7⟩,c0,c1,c2,c3,c4,c5,c6,c7⟩:=HCC.o X3 hb3;clear hb3))
   go_wp2
   go_roundw
   .exact ⟨k+1,by omega,by go_num,HB3.o⟩
   .simp [qf,intOf];omega
  .have hge:¬ (k:Int)<(M.mn:Int):=by omega
   clear hk hlt;go_wp2_with fail
   clear m0 p0;go_loopw [6] (fun i wr=>∃ j:Nat,j<=M.ln/\i=qI j/\qY U wr) (qf M.ln)
   .exact ⟨0,xC _,rfl,HBr.o⟩
   .obtain ⟨j,hj,rfl,hb⟩:=hrel;clear HBr;have HBr:=zh hb;have m12:=(HC.o wr hb).1.2.2.2.2.2.2.2.2.2.2.2.2.1;have p12:=(HC.o wr hb).2.2.2.2.2.2.2.2.2.2.2.2.2.1;by_cases hlt:j<M.ln
    .have hlt':(j:Int)<(M.ln:Int):=by omega
     obtain ⟨⟨x0,x1,x2,x3⟩,hx⟩:=eqx (M.lz.getD j zSl);obtain ⟨b1,o1,e1,a0,a1,a2,a3⟩:=(HD.o wr hb).1.l.at j hlt (.bool x0) (qI x1) (qI x2) (qI x3) (by rw [<- hx];rfl);obtain ⟨b2,o2,e2,c0,c1,c2,c3⟩:=(HD.o wr hb).2.l.at j (by rw [HNN.o.2.1];exact hlt) (.bool x0) (qI x1) (qI x2) (qI x3) (by rw [HNN.o.2.2,<- hx];rfl);rw [e1] at m12;rw [e2] at p12;clear e1 e2 hx hb HD HC;go_wp2_with fail
     go_region_held3 (fun w'=>w'.cell? (qR w.heap.size 12)=some (qS (some (qR b1 o1)) M.ln M.lc)/\w'.cell? (qR (w.heap.size+1) 12)=some (qS (some (qR b2 o2)) M.ln N.lc)/\(w'.cell? (qR b1 (o1+j*4))=some (.bool x0)/\w'.cell? (qR b1 (o1+j*4+1))=some (qI x1)/\w'.cell? (qR b1 (o1+j*4+2))=some (qI x2)/\w'.cell? (qR b1 (o1+j*4+3))=some (qI x3))/\w'.cell? (qR b2 (o2+j*4))=some (.bool x0)/\w'.cell? (qR b2 (o2+j*4+1))=some (qI x1)/\w'.cell? (qR b2 (o2+j*4+2))=some (qI x2)/\w'.cell? (qR b2 (o2+j*4+3))=some (qI x3)) (go_keep) (fail)
     go_wp2
     go_roundw
     .exact ⟨j+1,by omega,by go_num,HBr.o.drew⟩
     .simp [qf,intOf];omega
    .have hge2:¬ (j:Int)<(M.ln:Int):=by omega
     clear hj hlt;go_wp2_with fail
     clear m12 p12;go_loopw [7] (fun i wr=>i=qI 0/\qY U wr) (fun _ _=>0)
     .exact ⟨rfl,HBr.o⟩
     .obtain ⟨rfl,hb⟩:=hrel;have m13:=(HC.o wr hb).1.2.2.2.2.2.2.2.2.2.2.2.2.2.1;rw [hh] at m13;have HE:=zh (HB.o.trans (hb.mono HB.o.size));clear hb HBr;go_wp2;go_ret;exact ⟨rfl,HE.o⟩
def wdA (g cap e:Nat)(x:Int):Md:=⟨⟨#[109,97]⟩,some (qR g 0),8,cap,List.replicate 8 x,none,0,0,[],none,0,0,[],0,none,0,0,[],none,0,0,[],some (qR e 0),1,1,[(⟨#[103,111]⟩,-1,0)]⟩
def wdB (g cap t:Nat)(x:Int):Md:=⟨⟨#[108,105,98]⟩,some (qR g 0),t,cap,List.replicate t x,none,0,0,[],none,0,0,[],288,none,0,0,[],none,0,0,[],none,0,0,[]⟩
def wdV (m:Md):List Value:=[.string m.nm,qS m.ta m.tn m.tc,qS m.ba m.bn m.bc,qS m.da m.dn m.dc,qI m.bss,qS m.ra m.rn m.rc,qS m.ia m.im m.ic,qS m.ea m.en m.ec]
theorem aDs {w:qw}(h:IS w (qP g) n c (List.replicate n x))(t:Nat)(ht:t<=n):IS w (qP g) t c (List.replicate t x):=by
 obtain ⟨h1,h2,h3,h4,h5⟩:=h;refine ⟨by simp,by omega,fun z hz=>?_,fun hn=>?_,by omega⟩
 .rw [List.mem_replicate] at hz;exact h3 z (List.mem_replicate.2 ⟨by omega,hz.2⟩)
 .obtain ⟨b,off,e,hc⟩:=h4 (by omega);refine ⟨b,off,e,fun i hi=>?_⟩;have:=hc i (by omega);simpa [xB,hi,show i<n by omega] using this
theorem aDt (w:qw):IS w none 0 0 []:=⟨rfl,by decide,by simp,fun h=>absurd rfl h,aL⟩
theorem aN8 (w:qw):BKS w none 0 0 []:=⟨rfl,by decide,fun h=>absurd rfl h,fun i h=>absurd h (Nat.not_lt_zero _),aL⟩
theorem bs0 (w:qw):BS w none 0 0 []:=⟨rfl,by decide,by simp,fun h=>absurd rfl h,aL⟩
theorem ss0 (w:qw):SS w none 0 0 []:=⟨rfl,by decide,by simp,fun h=>absurd rfl h,aL⟩
theorem es0 (w:qw):ES w none 0 0 []:=⟨rfl,by decide,by simp,fun h=>absurd rfl h,aL⟩
theorem es1 {w:qw}(ke:Blk w e #[.string ⟨#[103,111]⟩,qI (-1),qI 0] 91):ES w (qP e) 1 1 [(⟨#[103,111]⟩,-1,0)]:=⟨rfl,by decide,by simp;decide,fun _=>⟨e,0,rfl,fun i hi=>by
 have:i=0:=by omega
 subst this
 exact ⟨ke.cell 0,ke.cell 1,ke.cell 2⟩⟩,aL⟩
theorem aLp {W:qw}{base cap t:Nat}(o:OG 3 1 clI W base (qS (qP g) 200 cap) (List.replicate 200 x))(hx:wfi x)(ht:t<=200)(ke:Blk W e #[.string ⟨#[103,111]⟩,qI (-1),qI 0] 91)(kq:Blk W q (wdV (wdA g cap e x)++wdV (wdB g cap t x)).toArray 53):MSD W (qP q) 2 2 [wdA g cap e x,wdB g cap t x]:=by
 have I:=lV o (fun z hz=>by rw [(List.mem_replicate.1 hz).2];exact hx);have hA:(wdA g cap e x).md W:=MD.mk (show (⟨#[109,97]⟩:ByteArray).size<=1048576 by decide) (aDs I 8 (by omega)) (aN8 W) (bs0 W) (show wfi 0 by unfold wfi;decide) (aDt W) (ss0 W) (es1 ke);have hB:(wdB g cap t x).md W:=MD.mk (show (⟨#[108,105,98]⟩:ByteArray).size<=1048576 by decide) (aDs I t ht) (aN8 W) (bs0 W) (show wfi 288 by unfold wfi;decide) (aDt W) (ss0 W) (es0 W)
 have hd:∀ i,i<2->(([wdA g cap e x,wdB g cap t x]:List Md).getD i zMd).md W:=fun i hi=>by
  match i,hi with
  | 0,_=>exact hA
  | 1,_=>exact hB
 refine ⟨⟨rfl,by decide,fun _=>⟨q,0,rfl,fun i hi=>?_⟩,fun i hi=>aAo (hd i hi),aL⟩,hd⟩
 match i,hi with
 | 0,_=>exact ⟨kq.cell 0,kq.cell 1,kq.cell 2,kq.cell 3,kq.cell 4,kq.cell 5,kq.cell 6,kq.cell 7⟩
 | 1,_=>exact ⟨kq.cell 8,kq.cell 9,kq.cell 10,kq.cell 11,kq.cell 12,kq.cell 13,kq.cell 14,kq.cell 15⟩
def WdP (w:qw)(e:Ending)(w':qw):Prop:=∃ (g:Nat) (ms:List Md),e=.returned (.tuple #[qS (qP g) 2 2,.agg (qW 0 1 512 3)])/\(∀ X,Turn (fun j=>j<w.heap.size) w' X->MSD X (qP g) 2 2 ms)/\qY w w'/\∀ i,i<2->(ms.getD i zMd).da=none/\(ms.getD i zMd).dn=0/\(ms.getD i zMd).dc=0
theorem aLq {W:qw}{z0 z1 z2 z3:Value}{va:qO}{vn vc:Nat}(k1:Blk W q #[z0,z1,z2,z3] 25)(v0 v1 v2 v3:Value)(Q:Ending->World->Prop)(tmps:Array Value)(h2:tmps[2]?=some (qS va vn vc))(h4:tmps[3]?=some (.pointer (qP q)))(hQ:Q (.returned (.tuple #[qS va vn vc,.agg #[v0,v1,v2,v3]])) (st4 W q v0 v1 v2 v3)):
 bodyPost Tryz.prog Tryz.f16 Q Exit.ret ⟨tmps,[]⟩ (st4 W q v0 v1 v2 v3):=by
 obtain ⟨⟨t0,t1,t2,t3⟩,_⟩:=(mV k1 v0 v1 v2 v3).cfr;refine bodyPost_ret_by (v:=.tuple #[qS va vn vc,.agg #[v0,v1,v2,v3]]) ?_ rfl hQ;simp [results,Tryz.results16,go_sem,h2,h4,t0,t1,t2,t3]
structure Wdx (w X:qw)(v:Value)(j:Nat)(x:Int):Prop where
 b:qY w X
 o:OG 3 1 clI X (w.heap.size+1) v (List.replicate j x)
 k:Blk X w.heap.size (qW 0 0 0 0) 25
theorem Wdx.bw {w X X':qw}{v:Value}(h:Wdx w X v j x)(hb:qY X X'):Wdx w X' v j x:=⟨h.b.trans (hb.mono h.b.size),h.o.bw hb,h.k.bw hb⟩
theorem Wdx.grow {w X X':qw}{a:qO}{v':Value}(h:Wdx w X (qS a n c) j x)(hown:X'.ownsRow (w.heap.size+1) 3 1 v' (j+1) ((List.replicate j x).flatMap clI++clI x))(hg:X.grownBy X' (qS a n c).ownBlock):Wdx w X' v' (j+1) x:=by
 have lt:=h.o.lt;refine ⟨aI h.b (S:=fun k=>(qS a n c).ownBlock=some k) ⟨hg.os,hg.tape,hg.output,hg.size,fun k hk hs=>hg.block k hk (fun e=>hs e.symm)⟩ (fun k hk=>by have:=(lt k hk).1;omega) h.b.size,?_,fD hg h.k (fun e=>by have:=(lt _ e.symm).1;omega)⟩;unfold OG;rw [List.replicate_succ',xI,List.length_replicate,xU,xX];exact hown
theorem aCc (k:Int)(hk:0<=k/\k<=255)(w:qw):qC 16 #[qI k] w (WdP w):=by
 obtain ⟨iI,hiI,hz0,hz1,hz2⟩:=info_parts gG;obtain ⟨x,hx⟩:=eqx (opW 25 0 0 0);have hxw:wfi x:=by rw [hx];unfold wfi;decide
 obtain ⟨t,ht⟩:∃ t:Nat,(t:Int)=200-k%2*136:=⟨(200-k%2*136).toNat,by omega⟩;have m2:k.tmod 2=k%2:=xL hk.1;have y1:IntKind.i64.wrap (k%2*136)=k%2*136:=oM _ (by omega) (by omega);have y2:IntKind.i64.wrap (200-k%2*136)=(t:Int):=by rw [ht];exact oM _ (by omega) (by omega)
 have t200:t<=200:=by omega
 have S0:Wdx w ((w.alloc (.cells (qW 0 0 0 0) 25)).alloc (.cells #[] 3)) (qS (some (qR (w.heap.size+1) 0)) 0 0) 0 x:=by
  refine ⟨bal.alloc (by simp) _,?_,(Blk.new w _ _).alloc _⟩;have:=cJ 3 1 clI (w.alloc (.cells (qW 0 0 0 0) 25)) (w.heap.size+1) (by simp);simpa using this
 have HS0:=zh S0;have CO:=zh (fun (X:qw)=>bD 25 0 0 0 X 25 0 0 0 rfl rfl rfl rfl (by omega));rw [<- hx] at CO;clear S0 hx ht;go_enter Tryz.func16,Tryz.ntmps16
 go_wp2;go_loopw [4,5] (fun v i wr=>∃ j:Nat,j<=200/\i=qI j/\Wdx w wr v j x) (fun _ i _=>200-(intOf i).toNat)
 .exact ⟨0,xC _,rfl,HS0.o⟩
 .obtain ⟨j,hj,rfl,S⟩:=hrel;generalize wr=wr1 at *;obtain ⟨av,cv,rfl⟩:=aO S.o;rw [List.length_replicate] at *;by_cases hlt:j<200
  .have hlt':(j:Int)<200:=by omega
   have HS:=zh S;clear S HS0;go_wp2_with fail
   refine (CO.o _).mono ?_;rintro e w1 ⟨rfl,b1⟩;have al:=aU w1 (.cells #[qI x] 3);have S1:=(HS.o.bw b1).bw al;have HS1:=zh S1;have HOW:=zh (show (w1.alloc (.cells #[qI x] 3)).ownsRow (w.heap.size+1) 3 1 (qS av j cv) j ((List.replicate j x).flatMap clI) by have:=S1.o;unfold OG at this;rw [List.length_replicate] at this;exact this);have hsz:=S1.b.size;have hsz1:=(HS.o.bw b1).b.size;clear S1 al b1;go_wp2_with (at_builtin;refine wpList_append_own _ rfl _ _ 29 rfl (w.heap.size+1) 3 iI (qI 0) 1 8 Tryz.underlying29 hiI hz0 hz1 hz2 rfl (by decide) (qS av j cv) j ((List.replicate j x).flatMap clI) rfl HOW.o (qR w1.heap.size 0) 1 1 (clI x) rfl rfl (aN w1 _ _ (clI x) rfl) (by intro u hu;simp [clI] at hu;subst hu;rfl) (by unfold maxLen;omega) (by omega) (by simp;omega) ?_;intro v' w4 hown hgr _)
   have HN:=zh (HS1.o.grow hown hgr);clear hown hgr HOW HS1 HS;go_wp2
   go_roundw
   .exact ⟨j+1,by omega,by go_num,HN.o⟩
   .simp [intOf];omega
  .have hlt':¬ (j:Int)<200:=by omega
   obtain rfl:j=200:=by omega
   obtain ⟨g,cp,e,_⟩:=World.ownsRow.form S.o (by simp);simp only [Value.slice.injEq] at e;obtain ⟨rfl,-,rfl⟩:=e;have hcap:200<=cv:=(lV S.o (fun z hz=>by rw [(List.mem_replicate.1 hz).2];exact hxw)).2.2.2.2;obtain ⟨X,hX⟩:=eqx ((((wr1.alloc (.cells #[.string ⟨#[103,111]⟩,qI (-1),qI 0] 91)).alloc (.cells #[.string ⟨#[109,97]⟩,qS (qP g) 8 cv,qS none 0 0,qS none 0 0,qI 0,qS none 0 0,qS none 0 0,qS (qP wr1.heap.size) 1 1] 53)).alloc (.cells #[.string ⟨#[108,105,98]⟩,qS (qP g) t cv,qS none 0 0,qS none 0 0,qI 288,qS none 0 0,qS none 0 0,qS none 0 0] 53)).alloc (.cells #[.string ⟨#[109,97]⟩,qS (qP g) 8 cv,qS none 0 0,qS none 0 0,qI 0,qS none 0 0,qS none 0 0,qS (qP wr1.heap.size) 1 1,.string ⟨#[108,105,98]⟩,qS (qP g) t cv,qS none 0 0,qS none 0 0,qI 288,qS none 0 0,qS none 0 0,qS none 0 0] 53));have bX:qY wr1 X:=by rw [hX];exact ((bal.alloc (by simp) _).alloc (by simp;omega) _).alloc (by simp;omega) _
   have ke:Blk X wr1.heap.size #[.string ⟨#[103,111]⟩,qI (-1),qI 0] 91:=by rw [hX];exact (((Blk.new wr1 _ _).alloc _).alloc _).alloc _
   have kq:Blk X (wr1.heap.size+1+1+1) #[.string ⟨#[109,97]⟩,qS (qP g) 8 cv,qS none 0 0,qS none 0 0,qI 0,qS none 0 0,qS none 0 0,qS (qP wr1.heap.size) 1 1,.string ⟨#[108,105,98]⟩,qS (qP g) t cv,qS none 0 0,qS none 0 0,qI 288,qS none 0 0,qS none 0 0,qS none 0 0] 53:=by rw [hX];have:=Blk.new (((wr1.alloc (.cells #[.string ⟨#[103,111]⟩,qI (-1),qI 0] 91)).alloc (.cells #[.string ⟨#[109,97]⟩,qS (qP g) 8 cv,qS none 0 0,qS none 0 0,qI 0,qS none 0 0,qS none 0 0,qS (qP wr1.heap.size) 1 1] 53)).alloc (.cells #[.string ⟨#[108,105,98]⟩,qS (qP g) t cv,qS none 0 0,qS none 0 0,qI 288,qS none 0 0,qS none 0 0,qS none 0 0] 53)) #[.string ⟨#[109,97]⟩,qS (qP g) 8 cv,qS none 0 0,qS none 0 0,qI 0,qS none 0 0,qS none 0 0,qS (qP wr1.heap.size) 1 1,.string ⟨#[108,105,98]⟩,qS (qP g) t cv,qS none 0 0,qS none 0 0,qI 288,qS none 0 0,qS none 0 0,qS none 0 0] 53;simpa using this
   have k0:=S.k.bw bX;have hlt0:=S.k.lt;obtain ⟨⟨p0,p1,p2,p3⟩,f0,f1,f2,f3⟩:=k0.cfr;have HS:=zh (xA (S.o.bw bX) (xA (S.b.trans (bX.mono S.b.size)) (xA ke (xA kq k0))));have HX:=zh hX;have hszX:=bX.size;clear S HS0 hX bX ke kq k0;go_wp2_with (rw [<- HX.o])
   refine aLq HS.o.2.2.2.2 _ _ _ _ _ _ rfl rfl ?_;obtain ⟨o,bX,ke,kq,k0⟩:=HS.o;refine ⟨_,[wdA g cv wr1.heap.size x,wdB g cv t x],rfl,fun Y TY=>?_,aI bX (gL X w.heap.size _ _ _ _) (fun j hj=>by omega) bX.size,fun i hi=>?_⟩;rotate_left
   .match i,hi with
    | 0,_=>exact ⟨rfl,rfl,rfl⟩
    | 1,_=>exact ⟨rfl,rfl,rfl⟩
   have T:Turn (fun j=>j=w.heap.size\/j<w.heap.size) X Y:=((gL X w.heap.size _ _ _ _).mono (fun j hj=>.inl hj)).trans (TY.mono (fun j hj=>.inr hj));exact aLp (o.kept T (fun j hj s=>by have:=(o.lt j hj).1;rcases s with s|s<;>omega)) hxw t200 (aA T ke (by omega)) (aA T kq (by omega))
section
variable {cf:Array Value}{tc:TypeId}{ct:Array Value}{tt:TypeId}{base:Nat}{R:List Rg}{w W5 W W':qw}{p:qO}{k q:Nat}
end
theorem Blk.tg3 {w:qw}{b:Nat}{t:TypeId}{v0 v1 v2:Value}(h:Blk w b #[v0,v1,v2] t):w.cell? (qR b 0)=some v0/\w.cell? (qR b 1)=some v1/\w.cell? (qR b 2)=some v2:=⟨h.cell 0,h.cell 1,h.cell 2⟩
end Go.Proofs.YtcimaholejajpaaGreat
namespace Go.Proofs.YtcimaholejajpaaGreat
open Go.RowKit Classical
set_option maxRecDepth 100000
variable {L:Lay}{a:qO}{b s:Int}{cap n:Nat}{ms:List Md}
theorem wI {w:qw}(h:MSD w a n cap ms)(m b:Int):0<=pcq (aF ms) m b ↔ (0<=m/\m<(n:Int))/\(b=-1\/(0<=b/\b<((ms.getD m.toNat zMd).bn:Int))):=by
 have hn:=h.s.1;rw [<- iH h];unfold pcm;rw [hn];by_cases c:0<=m/\m<(n:Int)
 .rw [if_pos c];unfold pcn;by_cases c1:b=-1
  .rw [if_pos c1];exact ⟨fun _=>⟨c,.inl c1⟩,fun _=>by omega⟩
  .rw [if_neg c1];by_cases c2:0<=b/\b<((ms.getD m.toNat zMd).bn:Int)
   .rw [if_pos c2];exact ⟨fun _=>⟨c,.inr c2⟩,fun _=>by omega⟩
   .rw [if_neg c2];exact ⟨fun h=>absurd h (by decide),fun h=>absurd h.2 (fun h=>h.elim c1 c2)⟩
 .rw [if_neg c];exact ⟨fun h=>absurd h (by decide),fun h=>absurd h.1 c⟩
theorem aK4 (L:Lay):sOk L (-1) (-1):=by unfold sOk;rw [if_pos (.inl rfl)]
theorem aL2 (h:sOk L (-1) s):s=-1:=by unfold sOk at h;rwa [if_pos (.inl rfl)] at h
theorem aK5 (b:Int)(h:L.slots=[]):sOk L b (-1):=by unfold sOk;rw [if_pos (.inr h)]
theorem aL3 (h:L.slots=[])(hs:sOk L b s):s=-1:=by unfold sOk at hs;rwa [if_pos (.inr h)] at hs
theorem aNh (hb:b≠-1)(h:¬ L.slots=[]):sOk L b s ↔ 0<=s/\s<(L.slots.length:Int):=by unfold sOk;rw [if_neg (fun c=>c.elim hb h)]
def F2 (ps:List PMod)(L:Lay)(m b:Int):Prop:=∀ s:Int,sOk L b s->(plR ps L m b s).length<=8
theorem aD5 {w:qw}(h:MSD w a n cap ms)(hk:Lok (aF ms) L)(hf:∀ m:Nat,m<n->∀ b:Int,(b=-1\/(0<=b/\b<((ms.getD m zMd).bn:Int)))->F2 (aF ms) L m b):kJ (aF ms) L:=by
 refine ⟨hk,fun m b s hp hs=>?_⟩;obtain ⟨⟨h1,h2⟩,h3⟩:=(wI h m b).1 hp;have:=hf m.toNat (by omega) b h3 s hs
 rwa [Int.toNat_of_nonneg h1] at this
theorem yS {w:qw}(h:MSD w a n cap ms){m:Int}(hm:0<=m/\m<(n:Int))(hb:b=-1\/(0<=b/\b<((ms.getD m.toNat zMd).bn:Int)))(hs:sOk L b s)(hl:¬ (plR (aF ms) L m b s).length<=8):¬ kJ (aF ms) L:=fun hf=>hl (hf.2 m b s ((wI h m b).2 ⟨hm,hb⟩) hs)
theorem aEq (a:qO)(n cap:Nat)(ms:List Md)(L:Lay)(a0:qO)(c0:Nat)(xs:List PB)(a2:qO)(c2:Nat)(a5:qO)(c5:Nat)(ts:List TB)(w:qw)(h:MSD w a n cap ms)(hL:LyT w L a0 c0 xs a2 c2 a5 c5 ts):
 qC 20 #[qS a n cap,.agg (qL L a0 xs.length c0 a2 L.slots.length c2 a5 ts.length c5)] w fun e w'=>∃ r:Bool,e=.returned (.bool r)/\(r=true ↔ kJ (aF ms) L)/\qY w w':=by
 obtain ⟨V,hV⟩:=eqx (w.alloc (.cells (qL L a0 xs.length c0 a2 L.slots.length c2 a5 ts.length c5) 64));have hB:qY w V:=by rw [hV];exact brf.alloc aL _
 have k0:Blk V w.heap.size (qL L a0 xs.length c0 a2 L.slots.length c2 a5 ts.length c5) 64:=by rw [hV];exact Blk.new w _ _
 have HBV:=zh hB;have HM:=zh (h.bw hB);have HL2:=zh (hL.bw hB);have HV:=zh hV;have HK:=zh k0;have hn:=h.s.1;have hmx:=h.s.2.1;have hlx:=hL.s.2.1;unfold maxLen at hmx hlx;have HKX:Zh (∀ X,qY V X->X.cell? (qR w.heap.size 0)=some (qS a0 xs.length c0)/\X.cell? (qR w.heap.size 1)=some (qI L.stack)/\X.cell? (qR w.heap.size 2)=some (qS a2 L.slots.length c2)/\X.cell? (qR w.heap.size 3)=some (qI L.flash)/\X.cell? (qR w.heap.size 4)=some (qI L.ram)/\X.cell? (qR w.heap.size 5)=some (qS a5 ts.length c5)):=fun X hz=>(HK.o.bw hz).ly6;have HX:Zh (∀ X,qY V X->qY w X):=fun X hz=>HBV.o.trans (hz.mono HBV.o.size);have HR:Zh (qC 45 #[qS a n cap,.agg (qL L a0 xs.length c0 a2 L.slots.length c2 a5 ts.length c5)] V (fun e w'=>e=.returned (.bool (decide (Lok (aF ms) L)))/\qY V w')):=sA a n cap ms L a0 c0 xs a2 c2 a5 c5 ts V HM.o HL2.o;clear hV k0 h hL hB;obtain ⟨z0,z1,z2,z3,z4,z5⟩:=HKX.o _ brf;by_cases c1:Lok (aF ms) L
 .rw [xR c1] at HR;have HC:=zh c1;have HPL:Zh (∀ X (m b s:Int),qY V X->(0<=m/\m<(n:Int))->(b=-1\/(0<=b/\b<((ms.getD m.toNat zMd).bn:Int)))->sOk L b s->qC 46 #[qS a n cap,.agg (qL L a0 xs.length c0 a2 L.slots.length c2 a5 ts.length c5),.agg (qT m b 0),qI s] X (fun e w'=>∃ A k c,e=.returned (qS A k c)/\k=(plR (aF ms) L m b s).length/\qY X w'/\qY V w')):=fun X m b s hz hm hb hs=>(aCd a n cap ms L a0 c0 xs a2 c2 a5 c5 ts m b 0 s X (HM.o.bw hz) (HL2.o.bw hz) c1 ((wI HM.o m b).2 ⟨hm,hb⟩) hs.fit).mono fun e w' ⟨A,k,c,he,ho,hbb⟩=>⟨A,k,c,he,(eU ho).1.symm,hbb,hz.trans (hbb.mono hz.size)⟩;clear c1;obtain ⟨l,hl⟩:=eqx (L.slots.length);rw [<- hl] at HR HPL HKX HV z2 hlx ⊢;have HLE:=zh hl;have HSE:=zh (show L.slots=[] ↔ l=0 by rw [hl];exact List.length_eq_zero_iff.symm);clear hl;go_enter Tryz.func20,Tryz.ntmps20
  go_wp2_with (rw [<- HV.o])
  refine HR.o.mono ?_;rintro e X1 ⟨rfl,hb1⟩;have HB1:=zh hb1;clear hb1 z0 z1 z2 z3 z4 z5 HR HV;go_wp2_with fail
  go_loopw [5] (fun i wr=>∃ m:Nat,m<=n/\i=qI m/\(∀ m':Nat,m'<m->∀ b:Int,(b=-1\/(0<=b/\b<((ms.getD m' zMd).bn:Int)))->F2 (aF ms) L m' b)/\qY V wr) (qf n)
  .exact ⟨0,xC _,rfl,fun m' hm'=>absurd hm' (Nat.not_lt_zero _),HB1.o⟩
  .obtain ⟨m,hm,rfl,hF,hB⟩:=hrel;have HF:=zh hF;have HB:=zh hB;clear hF hB HB1;by_cases hlt:m<n
   .have hlt':(m:Int)<(n:Int):=by omega
    obtain ⟨gm,om,rfl,_,_,v2,_,_,_,_,_⟩:=HM.o.s.at m hlt;have hbx:(ms.getD m zMd).bn<=9223372036854775807:=by have:=(HM.o.s.2.2.2.1 m hlt).b.2.1;unfold maxLen at this;omega
    obtain ⟨bn,hbn⟩:=eqx ((ms.getD m zMd).bn);have HBN:=zh hbn;rw [<- hbn] at v2 hbx;clear hbn;have HP1:=zh (HPL.o wr m (-1) (-1) HB.o (by omega) (.inl rfl) (aK4 L));obtain ⟨z0,z1,z2,z3,z4,z5⟩:=HKX.o _ HB.o;go_wp2_with fail
    refine HP1.o.mono ?_;rintro e X2 ⟨A,k,c,rfl,hk,_,hb2⟩;have HK2:=zh hk;have HB2:=zh hb2;clear hk hb2 HP1 z0 z1 z2 z3 z4 z5;by_cases h8:k<=8
    .have h8':(k:Int)<=8:=by omega
     have HT:Zh (F2 (aF ms) L m (-1)):=fun s hs=>by rw [aL2 hs,<- HK2.o];exact h8
     go_wp2_with fail
     generalize wr=wo at *;go_loopw [6] (fun i wr=>∃ q:Nat,q<=bn/\i=qI q/\(∀ b:Int,(b=-1\/(0<=b/\b<(q:Int)))->F2 (aF ms) L m b)/\qY V wr) (qf bn)
     .exact ⟨0,xC _,rfl,fun b hb=>by rcases hb with rfl|hb;exact HT.o;omega,HB2.o⟩
     .obtain ⟨q,hq,rfl,hF2,hB3⟩:=hrel;have HF2:=zh hF2;have HB3:=zh hB3;clear hF2 hB3;have v3:=aE HB3.o v2;by_cases hq2:q<bn
      .have hq2':(q:Int)<(bn:Int):=by omega
       generalize wr=wp at *
       have HQ:=zh (show F2 (aF ms) L m (q:Int)->∀ b:Int,(b=-1\/(0<=b/\b<((q+1:Nat):Int)))->F2 (aF ms) L m b from fun h b hb=>by
        by_cases e:b=(q:Int)
        .rw [e];exact h
        .exact HF2.o b (by omega))
       obtain ⟨V3,hV3⟩:=eqx (wp.alloc (.cells (qT m q 0) 106));have bV3:qY V V3:=by rw [hV3];exact HB3.o.alloc HB3.o.size _
       have kT:Blk V3 wp.heap.size (qT m q 0) 106:=by rw [hV3];exact Blk.new _ _ _
       have HV3:=zh hV3;have HBV3:=zh bV3;have HKT:=zh kT;have v4:=aE HBV3.o v2;clear hV3 bV3 kT;obtain ⟨z0,z1,z2,z3,z4,z5⟩:=HKX.o _ HBV3.o;obtain ⟨y0,y1,y2⟩:=HKT.o.tg3;have HBQ:Zh ((q:Int)=-1\/(0<=(q:Int)/\(q:Int)<((ms.getD ((m:Int)).toNat zMd).bn:Int))):=.inr ⟨by omega,by rw [xY,<- HBN.o];exact hq2'⟩;by_cases hl0:l=0
       .have HSL:=zh (HSE.o.2 hl0);have HP2:=zh (HPL.o V3 m q (-1) HBV3.o (by omega) HBQ.o (aK5 _ HSL.o));subst hl0;go_wp2_with (rw [<- HV3.o])
        refine HP2.o.mono ?_;rintro e X4 ⟨A2,k2,c2',rfl,hk2,_,hb4⟩;have HK4:=zh hk2;have HB4:=zh hb4;clear hk2 hb4 HP2 z0 z1 z2 z3 z4 z5 y0 y1 y2;by_cases h82:k2<=8
        .have h82':(k2:Int)<=8:=by omega
         have HN:=zh (HQ.o (fun s hs=>by rw [aL3 HSL.o hs,<- HK4.o];exact h82));go_wp2_with fail
         go_loopw [8] (fun i wr=>i=qI 0/\qY V wr) (fun _ _=>0)
         .exact ⟨rfl,HB4.o⟩
         .obtain ⟨rfl,hB5⟩:=hrel;have HB5:=zh hB5;obtain ⟨z0,z1,z2,z3,z4,z5⟩:=HKX.o _ HB5.o;clear hB5;go_wp2
          go_roundw
          .exact ⟨q+1,by omega,by go_num,HN.o,HB5.o⟩
          .simp [qf,intOf];omega
        .have h82':(8:Int)<(k2:Int):=by omega
         have HNO:=zh (yS HM.o (m:=(m:Int)) (b:=(q:Int)) (s:=-1) (by omega) HBQ.o (aK5 _ HSL.o) (by rw [<- HK4.o];exact h82));go_wp2;go_ret;exact ⟨false,rfl,by simp [HNO.o],HX.o _ HB4.o⟩
       .have hl0':((l:Int)==0)=false:=by simpa using hl0
        have HSK:Zh (∀ s:Int,sOk L (q:Int) s ↔ 0<=s/\s<(l:Int)):=fun s=>by rw [HLE.o];exact aNh (by omega) (fun e=>hl0 (HSE.o.1 e))
        go_wp2_with (rw [<- HV3.o])
        clear z0 z1 z2 z3 z4 z5 y0 y1 y2;go_loopw [8] (fun i wr=>∃ t:Nat,t<=l/\i=qI t/\(∀ s':Nat,s'<t->(plR (aF ms) L m q s').length<=8)/\Blk wr wp.heap.size (qT m q 0) 106/\qY V wr) (qf l)
        .exact ⟨0,xC _,rfl,fun s' hs'=>absurd hs' (Nat.not_lt_zero _),HKT.o,HBV3.o⟩
        .obtain ⟨t,ht,rfl,hG,kt5,hB5⟩:=hrel;have HG:=zh hG;have HK5:=zh kt5;have HB5:=zh hB5;clear hG kt5 hB5;obtain ⟨z0,z1,z2,z3,z4,z5⟩:=HKX.o _ HB5.o;obtain ⟨y0,y1,y2⟩:=HK5.o.tg3;by_cases ht2:t<l
         .have ht2':(t:Int)<(l:Int):=by omega
          have HP3:=zh (HPL.o wr m q t HB5.o (by omega) HBQ.o ((HSK.o _).2 ⟨by omega,ht2'⟩));go_wp2_with fail
          refine HP3.o.mono ?_;rintro e X6 ⟨A3,k3,c3',rfl,hk3,hbx6,hb6⟩;have HK6:=zh hk3;have HB6:=zh (xA hbx6 hb6);clear hk3 hbx6 hb6 HP3 z0 z1 z2 z3 z4 z5 y0 y1 y2;by_cases h83:k3<=8
          .have h83':(k3:Int)<=8:=by omega
           have HN:=zh (show ∀ s':Nat,s'<t+1->(plR (aF ms) L m q s').length<=8 from fun s' hs'=>by
            by_cases e:s'=t
            .rw [e,<- HK6.o];exact h83
            .exact HG.o s' (by omega))
           go_wp2
           go_roundw
           .exact ⟨t+1,by omega,by go_num,HN.o,HK5.o.bw HB6.o.1,HB6.o.2⟩
           .simp [qf,intOf];omega
          .have h83':(8:Int)<(k3:Int):=by omega
           have HNO:=zh (yS HM.o (m:=(m:Int)) (b:=(q:Int)) (s:=(t:Int)) (by omega) HBQ.o ((HSK.o _).2 ⟨by omega,ht2'⟩) (by rw [<- HK6.o];exact h83));go_wp2;go_ret;exact ⟨false,rfl,by simp [HNO.o],HX.o _ HB6.o.2⟩
         .have HN:=zh (HQ.o (fun s hs=>by
           have h1:=(HSK.o s).1 hs;have h2:=HG.o s.toNat (by omega)
           rwa [Int.toNat_of_nonneg h1.1] at h2))
          go_wp2
          go_roundw
          .exact ⟨q+1,by omega,by go_num,HN.o,HB5.o⟩
          .simp [qf,intOf];omega
      .have HN:=zh (show ∀ m':Nat,m'<m+1->∀ b:Int,(b=-1\/(0<=b/\b<((ms.getD m' zMd).bn:Int)))->F2 (aF ms) L m' b from fun m' hm' b hb=>by
        by_cases e:m'=m
        .subst e;rw [<- HBN.o] at hb;exact HF2.o b (by omega)
        .exact HF.o m' (by omega) b hb)
       go_wp2
       go_roundw
       .exact ⟨m+1,by omega,by go_num,HN.o,HB3.o⟩
       .simp [qf,intOf];omega
    .have h8':(8:Int)<(k:Int):=by omega
     have HNO:=zh (yS HM.o (m:=(m:Int)) (b:=-1) (s:=-1) (by omega) (.inl rfl) (aK4 L) (by rw [<- HK2.o];exact h8));go_wp2;go_ret;exact ⟨false,rfl,by simp [HNO.o],HX.o _ HB2.o⟩
   .have HN:=zh (aD5 HM.o HC.o (fun m' hm'=>HF.o m' (by omega)));go_wp2;go_ret;exact ⟨true,rfl,by simp [HN.o],HX.o _ HB.o⟩
 .rw [xS c1] at HR;have HC:=zh c1;clear c1;go_enter Tryz.func20,Tryz.ntmps20
  go_wp2_with (rw [<- HV.o])
  refine HR.o.mono ?_;rintro e X1 ⟨rfl,hb1⟩;have HB1:=zh hb1;clear hb1;go_wp2;go_ret;exact ⟨false,rfl,by simp [kJ,HC.o],HX.o _ HB1.o⟩
