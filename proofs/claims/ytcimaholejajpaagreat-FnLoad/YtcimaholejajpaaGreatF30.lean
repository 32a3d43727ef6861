import Derived.Test.YtcimaholejajpaaGreatF14
import Derived.Test.YtcimaholejajpaaGreatF16
set_option linter.all false
set_option maxHeartbeats 64000000
namespace Go.Proofs.YtcimaholejajpaaGreat
open Go.RowKit
set_option maxRecDepth 100000
variable {L:Lay}{T b c cw d m s x1 x2 x3:Int}{i k:Nat}{ps:List PMod}{xs:List SlT}
theorem aNl (h:0<=pcq ps m b)(hb:b≠-1):0<=b:=by
 unfold pcq at h;by_cases c1:0<=m/\m<(ps.length:Int)
 .rw [if_pos c1,if_neg hb] at h;by_cases c2:0<=b/\b<((ps.getD m.toNat zP).bl.length:Int)
  .exact c2.1
  .rw [if_neg c2] at h;exact absurd h (by decide)
 .rw [if_neg c1] at h;exact absurd h (by decide)
theorem aNg:slk ps T (false,x1,x2,x3) ↔ (false,x1,x2,x3)=zSl:=by unfold slk;simp
theorem aK3:slk ps T (true,x1,x2,x3) ↔ 0<=x2/\0<=pcq ps x1 x2/\1<=x3/\x3<=T:=by unfold slk;simp
theorem aBu (M:Mn)(x0:Bool)(x1 x2 x3:Int)(w:qw)(h:MnD w M):
 qC 109 #[.agg (qA M),.agg #[.bool x0,qI x1,qI x2,qI x3]] w (Yn (slk (aF M.ms) M.tn (x0,x1,x2,x3)) w):=by
 obtain ⟨U,hU,bU,kU⟩:=nwb w (qA M) 37;obtain ⟨V,hV,bV,kV⟩:=nwb U #[.bool x0,qI x1,qI x2,qI x3] 77;have hUs:U.heap.size=w.heap.size+1:=by rw [hU];simp
 have BV:=bU.trans (bV.mono bU.size);have kU':=kU.bw bV;have HIP:=zh (jI M.ma M.mn M.mc M.ms x1 x2 V (h.m.s.bw BV));rw [iH h.m x1 x2] at HIP
 have HC:=zh (fun (X:qw) (hX:qY V X)=>show (X.cell? (qR w.heap.size 0)=some (qS M.ma M.mn M.mc)/\X.cell? (qR w.heap.size 14)=some (qI M.tn))/\X.cell? (qR (w.heap.size+1) 0)=some (.bool x0)/\X.cell? (qR (w.heap.size+1) 1)=some (qI x1)/\X.cell? (qR (w.heap.size+1) 2)=some (qI x2)/\X.cell? (qR (w.heap.size+1) 3)=some (qI x3) from
  ⟨⟨(kU'.bw hX).cell 0,(kU'.bw hX).cell 14⟩,by rw [<- hUs];exact (kV.bw hX).cell 0,by rw [<- hUs];exact (kV.bw hX).cell 1,by rw [<- hUs];exact (kV.bw hX).cell 2,by rw [<- hUs];exact (kV.bw hX).cell 3⟩)
 have HB:=zh BV;have HU:=zh hU;have HV:=zh hV;rw [<- hUs] at HC;have HUS:=zh hUs;clear hU hV bU bV kU kU' kV BV h hUs;obtain ⟨⟨y0,y14⟩,s0,s1,s2,s3⟩:=HC.o V brf;cases x0 with
 | false=>
   rw [aNg];clear HIP HC y0 y14;by_cases e1:x1=0
   .by_cases e2:x2=0
    .by_cases e3:x3=0
     .subst e1 e2 e3;go_enter Tryz.func109,Tryz.ntmps109
      go_wp2_with (first|rw [<- HU.o]|rw [<- HV.o])
      go_ret;exact aBm rfl (HB.o)
     .have e3':(x3==0)=false:=by simp [e3]
      have HX:Zh (¬ (false,x1,x2,x3)=zSl):=fun q=>e3 (by unfold zSl at q;simp at q;exact q.2.2);subst e1 e2;clear e3;go_enter Tryz.func109,Tryz.ntmps109
      go_wp2_with (first|rw [<- HU.o]|rw [<- HV.o])
      go_ret;exact jD HX.o (HB.o)
    .have e2':(x2==0)=false:=by simp [e2]
     have HX:Zh (¬ (false,x1,x2,x3)=zSl):=fun q=>e2 (by unfold zSl at q;simp at q;exact q.2.1);subst e1;clear e2;go_enter Tryz.func109,Tryz.ntmps109
     go_wp2_with (first|rw [<- HU.o]|rw [<- HV.o])
     go_ret;exact jD HX.o (HB.o)
   .have e1':(x1==0)=false:=by simp [e1]
    have HX:Zh (¬ (false,x1,x2,x3)=zSl):=fun q=>e1 (by unfold zSl at q;simp at q;exact q.1);clear e1;go_enter Tryz.func109,Tryz.ntmps109
    go_wp2_with (first|rw [<- HU.o]|rw [<- HV.o])
    go_ret;exact jD HX.o (HB.o)
 | true=>
   rw [aK3];by_cases c1:x2=-1
   .subst c1;have e1:((-1:Int) !=-1)=false:=by decide
    clear HIP HC;go_enter Tryz.func109,Tryz.ntmps109
    go_wp2_with (first|rw [<- HU.o]|rw [<- HV.o])
    go_ret;exact jD (by simp) HB.o
   have c1':(x2 !=-1)=true:=by simp [c1]
   by_cases c2:0<=pcq (aF M.ms) x1 x2
   .have HX2:=zh (aNl c2 c1);have HC2:=zh c2;rw [xR c2] at HIP;clear c2 c1;go_enter Tryz.func109,Tryz.ntmps109
    go_wp2_with (first|rw [<- HU.o]|rw [<- HV.o])
    refine HIP.o.mono ?_;rintro e X1 ⟨rfl,hb1⟩;have HB1:=zh (HB.o.trans (hb1.mono HB.o.size));obtain ⟨⟨p0,p14⟩,t0,t1,t2,t3⟩:=HC.o X1 hb1;clear hb1 HIP HC HU HV y0 y14 s0 s1 s2 s3;by_cases c3:x3<1
    .go_wp2;go_ret;exact jD (fun q=>by omega) HB1.o
    go_wp2;go_ret;exact aOe ⟨fun q=>⟨HX2.o,HC2.o,by omega,q⟩,fun q=>q.2.2.2⟩ HB1.o
   .rw [xS c2] at HIP;have HC2:=zh c2;clear c1 c2;go_enter Tryz.func109,Tryz.ntmps109
    go_wp2_with (first|rw [<- HU.o]|rw [<- HV.o])
    refine HIP.o.mono ?_;rintro e X1 ⟨rfl,hb1⟩;have HB1:=zh (HB.o.trans (hb1.mono HB.o.size));clear hb1 HIP HC HU HV y0 y14 s0 s1 s2 s3;go_wp2;go_ret;exact jD (fun q=>by have h1:=HC2.o;have h2:=q.2.1;omega) HB1.o
theorem aM5 (hk:k<i)(h:cmn (xs.getD i zSl) (xs.getD k zSl)):¬ aln xs i:=fun q=>q k hk h
theorem aM4 (hF:∀ j,j<k->¬ cmn (xs.getD i zSl) (xs.getD j zSl))(h:¬ cmn (xs.getD i zSl) (xs.getD k zSl)):∀ j,j<k+1->¬ cmn (xs.getD i zSl) (xs.getD j zSl):=fun j hj=>by
 by_cases e:j=k
 .rw [e];exact h
 .exact hF j (by omega)
theorem aA0 (a:qO)(n c i:Nat)(xs:List SlT)(w:qw)(h:QS aCx zSl w a n c xs)(hi:i<n):
 qC 110 #[qS a n c,qI i] w (Yn (aln xs i) w):=by
 have hl:=h.1;have hmx:=h.2.1;have hcp:=h.2.2.2;unfold maxLen at hmx;have hi':(i:Int)<(n:Int):=by omega
 obtain ⟨g,f,rfl,q0,q1,q2,q3⟩:=h.at i hi _ _ _ _ rfl;have HNO0:=zh (fun (k:Nat) (hk:k<i) (q:cmn (xs.getD i zSl) (xs.getD k zSl))=>aM5 hk q);have HST0:=zh (fun (k:Nat) (hF:∀ j,j<k->¬ cmn (xs.getD i zSl) (xs.getD j zSl)) (q:¬ cmn (xs.getD i zSl) (xs.getD k zSl))=>aM4 hF q);have HYES:Zh ((∀ j,j<i->¬ cmn (xs.getD i zSl) (xs.getD j zSl))->aln xs i):=fun q=>q;generalize xs.getD i zSl=x at *;obtain ⟨x0,x1,x2,x3⟩:=x;dsimp only at q0 q1 q2 q3;obtain ⟨V,hV,bV,kV⟩:=nwb w #[.bool x0,qI x1,qI x2,qI x3] 77;have HH:=zh (h.bw bV);have HV:=zh hV;have HBK:=zh (xA bV kV);have HRE:=zh (Below.refl V.heap.size V);have hic:(i:Int)<=(c:Int):=by omega
 clear hV bV kV h;go_enter Tryz.func110,Tryz.ntmps110
 go_wp2_with (rw [<- HV.o])
 clear q0 q1 q2 q3 HV;go_loopw [16] (fun j wr=>∃ k:Nat,k<=i/\j=qI k/\(∀ j,j<k->¬ cmn (x0,x1,x2,x3) (xs.getD j zSl))/\qY V wr) (qf i)
 .exact ⟨0,xC _,rfl,fun j hj=>absurd hj (by omega),HRE.o⟩
 .obtain ⟨k,hk,rfl,hF,hB⟩:=hrel;by_cases hlt:k<i
  .have hlt':(k:Int)<(i:Int):=by omega
   obtain ⟨g',f',hg',q0,q1,q2,q3⟩:=(HH.o.bw hB).at k (by omega) _ _ _ _ rfl;simp at hg';obtain ⟨rfl,rfl⟩:=hg';have HNO:=zh (HNO0.o k hlt);have HST:=zh (HST0.o k hF);generalize xs.getD k zSl=y at *;obtain ⟨o0,o1,o2,o3⟩:=y;dsimp only at q0 q1 q2 q3;obtain ⟨W,hW,bW,kW⟩:=nwb wr #[.bool o0,qI o1,qI o2,qI o3] 77;have BW:=hB.trans (bW.mono hB.size);have HBW:=zh BW;have HW:=zh hW;have k2:=HBK.o.2.bw BW;obtain ⟨t0,t1,t2,t3⟩:=k2.z4;obtain ⟨p0,p1,p2,p3⟩:=kW.z4;clear hW bW kW BW k2 hB hF HNO0 HST0 HYES HH HRE;cases x0 with
   | false=>
     have HN:=zh (HST.o (fun q=>by have:=q.1;cases this));clear HNO HST;go_wp2_with (rw [<- HW.o])
     go_roundw
     .exact ⟨k+1,by omega,by go_num,HN.o,HBW.o⟩
     .simp [qf,intOf];omega
   | true=>
     cases o0 with
     | false=>
       have HN:=zh (HST.o (fun q=>by have:=q.2.1;cases this));clear HNO HST;go_wp2_with (rw [<- HW.o])
       go_roundw
       .exact ⟨k+1,by omega,by go_num,HN.o,HBW.o⟩
       .simp [qf,intOf];omega
     | true=>
       by_cases c3:o3=x3
       .subst c3;have HN:=zh (HNO.o ⟨rfl,rfl,.inl rfl⟩);clear HNO HST;go_wp2_with (rw [<- HW.o])
        go_ret;exact jD HN.o (HBK.o.1.trans (HBW.o.mono HBK.o.1.size))
       .have c3':(o3==x3)=false:=by simp [c3]
        by_cases c1:o1=x1
        .by_cases c2:o2=x2
         .have HN:=zh (HNO.o ⟨rfl,rfl,.inr ⟨c1,c2⟩⟩);subst c1 c2;clear HNO HST c3;go_wp2_with (rw [<- HW.o])
          go_ret;exact jD HN.o (HBK.o.1.trans (HBW.o.mono HBK.o.1.size))
         .have c2':(o2==x2)=false:=by simp [c2]
          have HN:=zh (HST.o (fun q=>by rcases q.2.2 with e|e;exact c3 e;exact c2 e.2));subst c1;clear HNO HST c3 c2;go_wp2_with (rw [<- HW.o])
          go_roundw
          .exact ⟨k+1,by omega,by go_num,HN.o,HBW.o⟩
          .simp [qf,intOf];omega
        .have c1':(o1==x1)=false:=by simp [c1]
         have HN:=zh (HST.o (fun q=>by rcases q.2.2 with e|e;exact c3 e;exact c1 e.1));clear HNO HST c3 c1;go_wp2_with (rw [<- HW.o])
         go_roundw
         .exact ⟨k+1,by omega,by go_num,HN.o,HBW.o⟩
         .simp [qf,intOf];omega
  .have HY:=zh (HYES.o (fun j hj=>hF j (by omega)));have HB:=zh hB;clear hB hF;go_wp2;go_ret;exact aBm HY.o (HBK.o.1.trans (HB.o.mono HBK.o.1.size))
theorem pW (h0:1<=c)(h1:c<=64):((slz c:Nat):Int)=rnd (4*c)/\slz c<=256/\4*c<=(slz c:Int):=by
 have:=bA (x:=4*c);have e:rnd (4*c)=(4*c+31)/32*32:=rfl;unfold slz;omega
theorem aKs {k:Int}(h:lkc ps s c k d=0)(hs:0<s)(hp:0<=pcq ps m b)(hb:0<=b):4*(bnk ps m b).length<=slz c/\∀ i,i<(bnk ps m b).length->0<=(bnk ps m b).getD i 0/\(bnk ps m b).getD i 0<=4294967295:=by
 obtain ⟨h1,h2,h3,h4,h5,h6,h7,h8,h9⟩:=gE.1 h;unfold cfo at h1;simp at h1;obtain ⟨s0,s1,w0,w1,_⟩:=h1;obtain ⟨z1,z2,z3⟩:=pW w0 w1;unfold pcq at hp;by_cases c1:0<=m/\m<(ps.length:Int)
 .rw [if_pos c1,if_neg (by omega)] at hp;by_cases c2:0<=b/\b<((ps.getD m.toNat zP).bl.length:Int)
  .have hv:=aBo (h4 m.toNat (by omega));have hsh:=h7 hs m.toNat (by omega) b.toNat (by omega);exact ⟨by unfold bnk;omega,hv.2 b.toNat (by omega)⟩
  .rw [if_neg c2] at hp;exact absurd hp (by decide)
 .rw [if_neg c1] at hp;exact absurd hp (by decide)
theorem aKt {w:qw}{a:qO}{n cap:Nat}{ms:List Md}(h:MSD w a n cap ms)(hp:0<=pcq (aF ms) m b)(hb:0<=b):∃ gm om gb ob dn dc ba bc,a=some (qR gm om)/\(0<=m/\m<(n:Int))/\b<((dn:Nat):Int)/\dn<=9223372036854775807/\(∀ X,qY w X->X.cell? (qR gm (om+m.toNat*8+2))=some (qS (some (qR gb ob)) dn dc)/\X.cell? (qR gb (ob+b.toNat))=some (.slice ba (bnk (aF ms) m b).length bc))/\IS w ba (bnk (aF ms) m b).length bc (bnk (aF ms) m b):=by
 obtain ⟨⟨h0,h1⟩,hq⟩:=aB5 h hp;obtain ⟨gm,om,rfl,v0,v1,v2,v3,v4,v5,v6,v7⟩:=h.s.at m.toNat (by omega);have hd:=h.d m.toNat (by omega);have hn:=h.s.1;have hbn:bnk (aF ms) m b=((ms.getD m.toNat zMd).pm.bl).getD b.toNat []:=by unfold bnk;rw [cD]
 generalize ms.getD m.toNat zMd=D at *
 have hlt:b<(D.bn:Int):=by
  unfold pcn at hq;rw [if_neg (by omega)] at hq;by_cases c:0<=b/\b<(D.bn:Int)
  .exact c.2
  .rw [if_neg c] at hq;omega
 obtain ⟨b1,b2,b3,b4,b5⟩:=hd.b;obtain ⟨gb,ob,hba,hc⟩:=b3 (by omega);have r:=b4 b.toNat (by omega);have ec:=hc b.toNat (by omega)
 have e1:bnk (aF ms) m b=(D.bl.getD b.toNat zB).2.2.2:=by
  rw [hbn];simp [Md.pm,xB,show b.toNat<D.bl.length by omega]
 rw [<- e1] at r;rw [hba] at v2;have e2:=r.1;rw [<- e2] at r ec;unfold maxLen at b2;exact ⟨gm,om,gb,ob,D.bn,D.bc,_,_,rfl,⟨h0,h1⟩,hlt,by omega,fun X hX=>⟨aE hX v2,aE hX ec⟩,r⟩
theorem lO (s c k d:Int)(w:qw)(h0:1<=c)(h1:c<=64):
 qC 150 #[.agg (qW s c k d)] w (qB w (qI (slz c:Nat))):=by
 have HR:=zh (fun (X:qw)=>gB (4*c) X);rw [<- (pW h0 h1).1] at HR;have HB:=zh ((Below.refl w.heap.size w).alloc aL (.cells (qW s c k d) 25));go_enter Tryz.func150,Tryz.ntmps150
 go_wp2_with (go_at_call 95;refine (HR.o _).mono ?_;rintro e w1 ⟨rfl,rfl⟩)
 go_ret;exact ⟨rfl,HB.o⟩
def BkB (w:qw)(ps:List PMod)(c m b:Int)(e:Ending)(w':qw):Prop:=∃ g,e=.returned (qS (qP g) (slz c) (slz c))/\OB w' w.heap.size (qS (qP g) (slz c) (slz c)) (bkb ps c m b)/\qY w w'
theorem uJ (M:Mn)(x0:Bool)(x1 x2 x3:Int)(w:qw)(h:MnD w M)(hk:lkc (aF M.ms) M.cs M.cw M.ck M.cd=0)(hs:0<M.cs)(hp:0<=pcq (aF M.ms) x1 x2)(hb:0<=x2):
 qC 112 #[.agg (qA M),.agg #[.bool x0,qI x1,qI x2,qI x3]] w (BkB w (aF M.ms) M.cw x1 x2):=by
 obtain ⟨w0,w1⟩:1<=M.cw/\M.cw<=64:=by
  have h1:=(gE.1 hk).1;unfold cfo at h1;simp at h1;exact ⟨h1.2.2.1,h1.2.2.2.1⟩
 obtain ⟨f1,f2⟩:=aKs hk hs hp hb;obtain ⟨z1,z2,z3⟩:=pW w0 w1;obtain ⟨U,hU,bU,kU⟩:=nwb w (qA M) 37;obtain ⟨V,hV,bV,kV⟩:=nwb U #[.bool x0,qI x1,qI x2,qI x3] 77;have hUs:U.heap.size=w.heap.size+1:=by rw [hU];simp
 have BV:=bU.trans (bV.mono bU.size);have kU':=kU.bw bV;obtain ⟨gm,om,gb,ob,dn,dc,ba,bc,ha,⟨m0,m1⟩,b1,b2,hcell,hrow⟩:=aKt (h.m.bw BV) hp hb;have HRW:=zh hrow;have HFT:=zh (xA f1 f2);have HRN:=zh (fun (X:qw)=>lO M.cs M.cw M.ck M.cd X w0 w1);have hmk:=aAq (slz M.cw) (by omega);have HDE:Zh (bkb (aF M.ms) M.cw x1 x2=dR (List.replicate (slz M.cw) 0) 0 (bnk (aF M.ms) x1 x2) (bnk (aF M.ms) x1 x2).length):=rfl;have hmx:=h.m.s.2.1;unfold maxLen at hmx
 have HC:=zh (fun (X:qw) (hX:qY V X)=>show (X.cell? (qR w.heap.size 0)=some (qS M.ma M.mn M.mc)/\X.cell? (qR w.heap.size 1)=some (qI M.cs)/\X.cell? (qR w.heap.size 2)=some (qI M.cw)/\X.cell? (qR w.heap.size 3)=some (qI M.ck)/\X.cell? (qR w.heap.size 4)=some (qI M.cd))/\X.cell? (qR (w.heap.size+1) 1)=some (qI x1)/\X.cell? (qR (w.heap.size+1) 2)=some (qI x2)/\X.cell? (qR gm (om+x1.toNat*8+2))=some (qS (some (qR gb ob)) dn dc)/\X.cell? (qR gb (ob+x2.toNat))=some (.slice ba (bnk (aF M.ms) x1 x2).length bc) from
  ⟨⟨(kU'.bw hX).cell 0,(kU'.bw hX).cell 1,(kU'.bw hX).cell 2,(kU'.bw hX).cell 3,(kU'.bw hX).cell 4⟩,by rw [<- hUs];exact (kV.bw hX).cell 1,by rw [<- hUs];exact (kV.bw hX).cell 2,(hcell X hX).1,(hcell X hX).2⟩)
 have HBV:=zh BV;have HU:=zh hU;have HV:=zh hV;unfold BkB;rw [HDE.o];generalize bnk (aF M.ms) x1 x2=ws at *;generalize slz M.cw=sz at *;rw [ha] at HC;rw [<- hUs] at HC;clear hU hV bU bV kU kU' kV hcell hrow BV h hk hp z1 HDE hUs f1 f2;have HA:=zh ha;clear ha;obtain ⟨⟨y0,y1,y2,y3,y4⟩,s1,s2,u0,u1⟩:=HC.o V brf;go_enter Tryz.func112,Tryz.ntmps112
 go_wp2_with (first|rw [<- HU.o]|rw [<- HV.o])
 refine (HRN.o _).mono ?_;rintro e X1 ⟨rfl,hb1⟩;have HX1:=zh hb1;obtain ⟨V2,hV2,b2',k2⟩:=nwb X1 (zby sz) 5;have B2:=hb1.trans (b2'.mono hb1.size);have HV2:=zh hV2;have hg:w.heap.size<=X1.heap.size:=by have h1:=HBV.o.size;have h2:=hb1.size;omega
 have HP:=zh (fun (X:qw) (hX:qY V2 X)=>(iF X1.heap.size sz sz 0 sz sz ba ws.length bc ws (List.replicate sz 0) w.heap.size X1 X (HRW.o.bw HX1.o) (b2'.trans (hX.mono b2'.size)) aL ((pH k2 hg (by omega)).bw hX) (by omega) (by have:=HFT.o.1;omega) (by have:=HFT.o.1;omega) aL (by omega)).mono (fun e w' he=>show e=.returned (.tuple #[])/\OB w' w.heap.size (qS (qP X1.heap.size) sz sz) (dR (List.replicate sz 0) 0 ws ws.length)/\qY V w' from ⟨he.1,he.2.1,HX1.o.trans ((cT (b2'.trans (hX.mono b2'.size)) he.2.2 aL).mono HX1.o.size)⟩));have HB2:=zh B2;clear y0 y1 y2 y3 y4 s1 s2 u0 u1 HRN HU HV;obtain ⟨⟨y0,y1,y2,y3,y4⟩,s1,s2,u0,u1⟩:=HC.o V2 B2;clear hb1 b2' k2 B2 hV2 hg;go_wp2_with (rw [<- HV2.o])
 go_region_held3 (fun w'=>w'.cell? (qR w.heap.size 0)=some (qS (some (qR gm om)) M.mn M.mc)/\w'.cell? (qR U.heap.size 1)=some (qI x1)/\w'.cell? (qR U.heap.size 2)=some (qI x2)/\w'.cell? (qR gm (om+x1.toNat*8+2))=some (qS (some (qR gb ob)) dn dc)/\w'.cell? (qR gb (ob+x2.toNat))=some (qS ba ws.length bc)) (go_keep)
  (first
    | (go_at_call 147;first
        | with_reducible refine (HP.o _ brf).mono ?_
        | with_reducible refine (HP.o _ brf.drew).mono ?_
       rintro e w1 ⟨rfl,ho1,hb1⟩;have HE:=zh (xA ho1 hb1);obtain ⟨⟨p0,p1,p2,p3,p4⟩,t1,t2,v0,v1⟩:=HC.o w1 hb1
       clear ho1 hb1))
 clear y0 y1 y2 y3 y4 s1 s2 u0 u1 p0 p1 p2 p3 p4 t1 t2 v0 v1 HP HC;go_wp2;go_ret;exact ⟨_,rfl,HE.o.1,HBV.o.trans (HE.o.2.mono HBV.o.size)⟩
theorem aBt {k:Int}(h:lkc ps s c k d=0)(hi:i<(lkL ps s c k d).slots.length):65536<=(lkL ps s c k d).slots.getD i 0/\(lkL ps s c k d).slots.getD i 0-65536+(slz c:Int)<=(lkL ps s c k d).ram/\(lkL ps s c k d).ram<=16384/\((lkL ps s c k d).slots.length:Int)=s/\0<s:=by
 have e:lkL ps s c k d=lay ps s c k:=by unfold lkL;rw [if_pos h]
 rw [e] at hi ⊢;obtain ⟨h1,h2,h3,h4,h5,h6,h7,h8,h9⟩:=gE.1 h;unfold cfo at h1;simp at h1;obtain ⟨s0,s1,w0,w1,k0,_⟩:=h1;obtain ⟨z1,z2,z3⟩:=pW w0 w1;have a1:=bP h4 ps.length aL;have hl:(lay ps s c k).slots.length=s.toNat:=by simp [lay]
 rw [hl] at hi
 have e2:(lay ps s c k).slots.getD i 0=65536+Ra ps ps.length+k+(i:Int)*rnd (4*c):=by
  simp [lay,xB,hi,slt]
 have e3:(lay ps s c k).ram=Ra ps ps.length+k+(s.toNat:Int)*rnd (4*c):=rfl
 have hm:(i:Int)*rnd (4*c)+rnd (4*c)<=(s.toNat:Int)*rnd (4*c):=by
  have:((i:Int)+1)*rnd (4*c)<=(s.toNat:Int)*rnd (4*c):=Int.mul_le_mul_of_nonneg_right (by omega) (by omega);rw [Int.add_mul,Int.one_mul] at this;exact this
 have hm0:(0:Int)<=(i:Int)*rnd (4*c):=Int.mul_nonneg (by omega) (by omega);rw [e2,z1];exact ⟨by omega,by omega,h9,by omega,by omega⟩
theorem tU (M:Mn)(L:Lay)(a0:qO)(c0:Nat)(xs:List PB)(a2:qO)(c2:Nat)(a5:qO)(c5:Nat)(ts:List TB)(i:Nat)(w:qw)(h:MnD w M)(hs:IS w a2 L.slots.length c2 L.slots)(hi:i<L.slots.length)(w0:1<=M.cw)(w1:M.cw<=64)(hA0:65536<=L.slots.getD i 0)(hA1:L.slots.getD i 0-65536+(slz M.cw:Int)<=M.rn)(hrn:M.rn<=16384):
 qC 111 #[.agg (qA M),.agg (qJ L a0 xs c0 a2 c2 a5 ts c5),qI i] w fun e w'=>∃ a c,e=.returned (qS a (slz M.cw) c)/\BS w' a (slz M.cw) c (slb M.rz L M.cw i)/\qY w w':=by
 obtain ⟨z1,z2,z3⟩:=pW w0 w1;obtain ⟨U,hU,bU,kU⟩:=nwb w (qA M) 37;obtain ⟨V,hV,bV,kV⟩:=nwb U (qJ L a0 xs c0 a2 c2 a5 ts c5) 64;have BV:=bU.trans (bV.mono bU.size);have kU':=kU.bw bV;obtain ⟨gs,os,rfl,hcs⟩:=(hs.bw BV).2.2.2.1 (by omega);have q:=hcs i hi;obtain ⟨A,hA⟩:∃ A:Nat,L.slots.getD i 0=65536+(A:Int):=⟨(L.slots.getD i 0-65536).toNat,by omega⟩;have HSB:=zh (show slb M.rz L M.cw i=(M.rz.drop A).take (slz M.cw) from by unfold slb;rw [hA,show (65536+(A:Int)-65536).toNat=A by omega]);rw [hA] at q hA1;have hrc:=h.r.2.2.2.2;have hrm:=h.r.2.1;have hi':(i:Int)<(L.slots.length:Int):=by omega
 have hlm:=hs.2.1;unfold maxLen at hrm hlm;have HSS:=zh (fun (X:qw)=>lO M.cs M.cw M.ck M.cd X w0 w1);have HR:=zh (fun (X:qw) (hX:qY V X)=>(h.r.bw BV).bw hX)
 have HC:=zh (fun (X:qw) (hX:qY V X)=>show X.cell? (qR w.heap.size 1)=some (qI M.cs)/\X.cell? (qR w.heap.size 2)=some (qI M.cw)/\X.cell? (qR w.heap.size 3)=some (qI M.ck)/\X.cell? (qR w.heap.size 4)=some (qI M.cd)/\X.cell? (qR w.heap.size 8)=some (qS M.ra M.rn M.rc) from
  ⟨(kU'.bw hX).cell 1,(kU'.bw hX).cell 2,(kU'.bw hX).cell 3,(kU'.bw hX).cell 4,(kU'.bw hX).cell 8⟩)
 have s2:=kV.e2;rw [HSB.o];generalize slz M.cw=sz at *;generalize hrr:M.ra=ra at *;generalize hrcc:M.rc=rc at *;obtain ⟨rb,ro,rfl,_⟩:=(HR.o V brf).2.2.2.1 (by omega);obtain ⟨E,hE⟩:∃ E:Nat,E=A+sz:=⟨_,rfl⟩
 have HBS:=zh (fun (X:qw) (hX:qY V X)=>show BS X (some (qR rb (ro+A))) (E-A) (rc-A) ((M.rz.drop A).take sz) from by
  have h1:=((HR.o X hX).drop A (by omega)).take sz (by omega);rw [show E-A=sz by omega]
  exact h1)
 have HES:=zh (show E-A=sz by omega);have hwA:IntKind.i64.wrap (65536+(A:Int)-65536)=(A:Int):=by rw [xP,xQ _ (by omega)];omega
 have hwA2:IntKind.i64.wrap (A:Int)=(A:Int):=by rw [xP,xQ _ (by omega)]
 have hwE:IntKind.i64.wrap ((A:Int)+(sz:Int))=(E:Int):=by rw [xP,xQ _ (by omega)];omega
 have g0:(0:Int)<=(A:Int):=by omega
 have g1:(A:Int)<=(E:Int):=by omega
 have g2:(E:Int)<=(rc:Int):=by omega
 have g3:(A:Int)<(rc:Int):=by omega
 have g4:A<=E:=by omega
 have g5:¬ (rc=A):=by omega
 have g6:A<rc:=by omega
 have HBV:=zh BV;have HU:=zh hU;have HV:=zh hV;have HX0:=zh (xA hrr hrcc);obtain ⟨y1,y2,y3,y4,y8⟩:=HC.o V brf;clear hU hV bU bV kU kU' kV BV h hs hcs hA hE hrr hrcc HSB HR hrc hA0 hA1 z1 z3;go_enter Tryz.func111,Tryz.ntmps111
 go_wp2_with (first|rw [<- HU.o]|rw [<- HV.o])
 have HP:=zh (fun (X:qw) (hX:qY V X)=>(HSS.o X).mono (fun e w' he=>show e=.returned (qI sz)/\qY V w' from ⟨he.1,hX.trans (he.2.mono hX.size)⟩));clear s2 q
 go_region_held3 (fun w'=>w'.cell? (qR w.heap.size 1)=some (qI M.cs)/\w'.cell? (qR w.heap.size 2)=some (qI M.cw)/\w'.cell? (qR w.heap.size 3)=some (qI M.ck)/\w'.cell? (qR w.heap.size 4)=some (qI M.cd)/\w'.cell? (qR w.heap.size 8)=some (qS (some (qR rb ro)) M.rn rc)) (go_keep)
  (first
    | (go_at_call 150;first
        | with_reducible refine (HP.o _ brf).mono ?_
        | with_reducible refine (HP.o _ brf.drew).mono ?_
       rintro e w1 ⟨rfl,hb1⟩;have HE:=zh hb1;obtain ⟨t1,t2,t3,t4,t8⟩:=HC.o w1 hb1
       clear hb1))
 clear y1 y2 y3 y4 y8 t1 t2 t3 t4 t8 HP HC;go_wp2;go_ret;exact ⟨some (qR rb (ro+A)),rc-A,by rw [<- HES.o];rfl,by have:=HBS.o _ HE.o;rw [HES.o] at this;exact this,HBV.o.trans (HE.o.mono HBV.o.size)⟩
theorem aMo {k:Int}(h:lkc ps s c k d=0):((lkL ps s c k d).slots.length:Int)=s/\(1<=c/\c<=64):=by
 have e:lkL ps s c k d=lay ps s c k:=by unfold lkL;rw [if_pos h]
 have h1:=(gE.1 h).1;unfold cfo at h1;simp at h1;have hl:(lay ps s c k).slots.length=s.toNat:=by simp [lay]
 rw [e,hl];exact ⟨by omega,h1.2.2.1,h1.2.2.2.1⟩
theorem nY {P:Prop}{w w':qw}{e:Ending}(h:Yn P w e w')(b:Bool)(hb:b=true ↔ P):e=.returned (.bool b)/\qY w w':=by
 obtain ⟨r,he,hr,hB⟩:=h;have:r=b:=by rw [xJ,hr,hb]
 exact ⟨by rw [he,this],hB⟩
theorem aLz {cs:Int}{rz:qi}(hk:k<xs.length)(h:¬ tV ps L cw T rz xs k):¬ pY ps L cs cw T rz xs:=fun f=>h (f.2 k hk)
theorem aLy {rz:qi}(hF:∀ i,i<k->tV ps L cw T rz xs i)(h:tV ps L cw T rz xs k):∀ i,i<k+1->tV ps L cw T rz xs i:=fun i hi=>by
 by_cases e:i=k
 .rw [e];exact h
 .exact hF i (by omega)
theorem zW (M:Mn)(L:Lay)(a0:qO)(c0:Nat)(xs:List PB)(a2:qO)(c2:Nat)(a5:qO)(c5:Nat)(ts:List TB)(w:qw)(h:MnD w M)(hL:LyT w L a0 c0 xs a2 c2 a5 c5 ts)(eL:L=M.L)(hk:lkc (aF M.ms) M.cs M.cw M.ck M.cd=0)(hr:(M.rn:Int)=L.ram):
 qC 61 #[.agg (qA M),.agg (qJ L a0 xs c0 a2 c2 a5 ts c5)] w (Yn (pY (aF M.ms) L M.cs M.cw M.tn M.rz M.lz) w):=by
 obtain ⟨hsl,w0,w1⟩:=aMo hk;have eL':L=lkL (aF M.ms) M.cs M.cw M.ck M.cd:=eL;rw [<- eL'] at hsl;have hl:=h.l.1;have hmx:=h.l.2.1;unfold maxLen at hmx;obtain ⟨U,hU,bU,kU⟩:=nwb w (qA M) 37;obtain ⟨V,hV,bV,kV⟩:=nwb U (qJ L a0 xs c0 a2 c2 a5 ts c5) 64;have BV:=bU.trans (bV.mono bU.size);have kU':=kU.bw bV;have HDV:=zh (h.bw BV);have HSV:=zh (hL.s.bw BV);have HU:=zh hU;have HV:=zh hV;have HB:=zh BV;have HC:=zh (fun (X:qw) (hX:qY V X)=>xA (kU'.bw hX) (kV.bw hX));have y1:=kU'.e1;have y12:=kU'.e12;have HRE:=zh (Below.refl V.heap.size V);have HEQ:=zh (xA eL' (xA hsl (xA hr hk)));clear hU hV bU bV kU kU' kV BV h hL eL eL' hsl hr hk;by_cases c0':¬ (M.ln:Int)=M.cs
 .have HN:Zh (¬ pY (aF M.ms) L M.cs M.cw M.tn M.rz M.lz):=fun f=>c0' (by have:=f.1;omega);have c0'':((M.ln:Int) !=M.cs)=true:=by simp [c0']
  clear c0';go_enter Tryz.func61,Tryz.ntmps61
  go_wp2_with (first|rw [<- HU.o]|rw [<- HV.o])
  go_ret;exact jD HN.o HB.o
 replace c0':(M.ln:Int)=M.cs:=xZ.1 c0';have c0'':((M.ln:Int) !=M.cs)=false:=by simp [c0']
 have HCS:=zh c0';clear c0';by_cases cn:M.ln=0
 .have HY:Zh (pY (aF M.ms) L M.cs M.cw M.tn M.rz M.lz):=⟨by have:=HCS.o;omega,fun i hi=>absurd hi (by omega)⟩;have HCN:=zh cn;clear cn;go_enter Tryz.func61,Tryz.ntmps61
  go_wp2_with (first|rw [<- HU.o]|rw [<- HV.o])
  go_loopw [17] (fun i wr=>∃ k:Nat,i=qI k/\qY V wr) (fun i _=>0)
  .exact ⟨0,rfl,HRE.o⟩
  .obtain ⟨k,rfl,hB⟩:=hrel;have hlt:¬ ((k:Int)<(M.ln:Int)):=by have:=HCN.o;omega
   have HB2:=zh hB;clear hB;go_wp2;go_ret;exact aBm HY.o (HB.o.trans (HB2.o.mono HB.o.size))
 obtain ⟨g,f,hg⟩:∃ g f,M.la=some ⟨g,f,none⟩:=by
  obtain ⟨g,f,hg,_⟩:=HDV.o.l.2.2.1 cn;exact ⟨g,f,hg⟩
 obtain ⟨eL',hsl,hr,hk⟩:=HEQ.o;have HQ:=zh (fun (wr:qw) (hB:qY V wr) (k:Nat) (hk:k<M.ln)=>(HDV.o.l.bw hB).at k hk _ _ _ _ rfl);have HSO:=zh (fun (x0:Bool) (x1 x2 x3:Int) (b:Bool) (hb:b=true ↔ slk (aF M.ms) M.tn (x0,x1,x2,x3)) (X:qw) (hX:qY V X)=>(aBu M x0 x1 x2 x3 X (HDV.o.bw hX)).mono (fun e w' he=>show e=.returned (.bool b)/\qY X w' from nY he b hb));have HAL:=zh (fun (k:Nat) (hk:k<M.ln) (b:Bool) (hb:b=true ↔ aln M.lz k) (X:qw) (hX:qY V X)=>(aA0 M.la M.ln M.lc k M.lz X (HDV.o.l.bw hX) hk).mono (fun e w' he=>show e=.returned (.bool b)/\qY X w' from nY he b hb));have HSB:=zh (fun (k:Nat) (hi:k<L.slots.length) (X:qw) (hX:qY V X)=>(tU M L a0 c0 xs a2 c2 a5 c5 ts k X (HDV.o.bw hX) (HSV.o.bw hX) hi w0 w1 (by have:=(aBt hk (by rw [<- eL'];exact hi)).1;rw [eL'];exact this) (by have:=(aBt hk (by rw [<- eL'];exact hi)).2.1;rw [<- eL'] at this;omega) (by have:=(aBt hk (by rw [<- eL'];exact hi)).2.2.1;rw [<- eL'] at this;omega)).mono (fun e w' he=>show ∃ a c,e=.returned (qS a (slz M.cw) c)/\BS w' a (slz M.cw) c (slb M.rz L M.cw k)/\qY X w' from he))
 have HBB:=zh (fun (x0:Bool) (x1 x2 x3:Int) (hp:0<=pcq (aF M.ms) x1 x2) (hb:0<=x2) (X:qw) (hX:qY V X)=>(uJ M x0 x1 x2 x3 X (HDV.o.bw hX) hk (by have:=HCS.o;omega) hp hb).mono (fun e w' he=>show ∃ g,e=.returned (qS (qP g) (slz M.cw) (slz M.cw))/\BS w' (qP g) (slz M.cw) (slz M.cw) (bkb (aF M.ms) M.cw x1 x2)/\qY X w' from by
  obtain ⟨g,h1,h2,h3⟩:=he
  exact ⟨g,h1,h2.bs,h3⟩))
 try unfold qA at *
 try unfold qL at *
 rw [hg] at HC HSO HAL HSB HBB y12 HU HQ ⊢;have HSN:=zh (show L.slots.length=M.ln by have:=HCS.o;omega);clear cn hg HDV HSV hk eL' hsl hr HEQ;go_enter Tryz.func61,Tryz.ntmps61
 go_wp2_with (first|rw [<- HU.o]|rw [<- HV.o])
 clear y1 y12 HU HV;go_loopw [17] (fun i wr=>∃ k:Nat,k<=M.ln/\i=qI k/\(∀ i,i<k->tV (aF M.ms) L M.cw M.tn M.rz M.lz i)/\qY V wr) (qf M.ln)
 .exact ⟨0,xC _,rfl,fun i hi=>absurd hi (by omega),HRE.o⟩
 .obtain ⟨k,hk,rfl,hF,hB⟩:=hrel;by_cases hlt:k<M.ln
  .have hlt':(k:Int)<(M.ln:Int):=by omega
   obtain ⟨g',f',hg',q0,q1,q2,q3⟩:=HQ.o wr hB k hlt;simp at hg';obtain ⟨rfl,rfl⟩:=hg';have HNO:=zh (fun (q:¬ tV (aF M.ms) L M.cw M.tn M.rz M.lz k)=>aLz (cs:=M.cs) (show k<M.lz.length by omega) q);have HST:=zh (fun (q:tV (aF M.ms) L M.cw M.tn M.rz M.lz k)=>aLy hF q);have HOK:Zh (tV (aF M.ms) L M.cw M.tn M.rz M.lz k ↔ slk (aF M.ms) M.tn (M.lz.getD k zSl)/\aln M.lz k/\((M.lz.getD k zSl).1=true->slb M.rz L M.cw k=bkb (aF M.ms) M.cw (M.lz.getD k zSl).2.1 (M.lz.getD k zSl).2.2.1)):=Iff.rfl;generalize M.lz.getD k zSl=x at *;obtain ⟨x0,x1,x2,x3⟩:=x;dsimp only at q0 q1 q2 q3 HOK;obtain ⟨W,hW,bW,kW⟩:=nwb wr #[.bool x0,qI x1,qI x2,qI x3] 77;have BW:=hB.trans (bW.mono hB.size);have HBW:=zh BW;have HW:=zh hW;have HS:=zh (fun (X:qw) (hX:qY W X)=>show Blk X w.heap.size (qX M M.ma M.mn M.mc M.ka M.kn M.kc M.fa M.fn M.fc M.ra M.rn M.rc M.oa M.on M.oc (some (qR g f)) M.ln M.lc M.ha M.hn M.hc) 37/\Blk X U.heap.size (qJ L a0 xs c0 a2 c2 a5 ts c5) 64/\Blk X wr.heap.size #[.bool x0,qI x1,qI x2,qI x3] 77 from ⟨(HC.o X (BW.trans (hX.mono BW.size))).1,(HC.o X (BW.trans (hX.mono BW.size))).2,kW.bw hX⟩);have HVW:=zh (fun (X:qw) (hX:qY W X)=>BW.trans (hX.mono BW.size));have HD:=zh ((Below.refl W.heap.size W).drew);clear hW bW kW BW hB hF HQ HC HRE
   obtain ⟨b1,hb1⟩:∃ b:Bool,b=true ↔ slk (aF M.ms) M.tn (x0,x1,x2,x3):=by
    by_cases c:slk (aF M.ms) M.tn (x0,x1,x2,x3)
    .exact ⟨true,by simp [c]⟩
    .exact ⟨false,by simp [c]⟩
   obtain ⟨b2,hb2⟩:∃ b:Bool,b=true ↔ aln M.lz k:=by
    by_cases c:aln M.lz k
    .exact ⟨true,by simp [c]⟩
    .exact ⟨false,by simp [c]⟩
   obtain ⟨b3,hb3⟩:∃ b:Bool,b=decide (slb M.rz L M.cw k=bkb (aF M.ms) M.cw x1 x2):=⟨_,rfl⟩;have HDE:=zh hb3.symm;have HSO1:=zh (HSO.o x0 x1 x2 x3 b1 hb1);have HAL1:=zh (HAL.o k hlt b2 hb2);have HSB1:=zh (HSB.o k (by rw [HSN.o];exact hlt));have HNA:=zh (fun (e:b1=false)=>HNO.o (fun q=>by have:=hb1.2 (HOK.o.1 q).1;rw [e] at this;cases this));have HNB:=zh (fun (e:b2=false)=>HNO.o (fun q=>by have:=hb2.2 (HOK.o.1 q).2.1;rw [e] at this;cases this));have HNC:=zh (fun (e1:b1=true) (e2:b2=true) (e3:x0=false)=>HST.o (HOK.o.2 ⟨hb1.1 e1,hb2.1 e2,fun q=>by rw [e3] at q;cases q⟩));have HND:=zh (fun (e0:x0=true) (e:b3=false)=>HNO.o (fun q=>by have:=(HOK.o.1 q).2.2 e0;rw [e] at hb3;exact absurd this (of_decide_eq_false hb3.symm)));have HNE:=zh (fun (e1:b1=true) (e2:b2=true) (e3:b3=true)=>HST.o (HOK.o.2 ⟨hb1.1 e1,hb2.1 e2,fun _=>by rw [e3] at hb3;exact of_decide_eq_true hb3.symm⟩))
   have HPP:=zh (fun (e1:b1=true) (e0:x0=true)=>show 0<=pcq (aF M.ms) x1 x2/\0<=x2 from by
    have h1:=hb1.1 e1;rw [e0] at h1;obtain ⟨p2,pq,_⟩:=aK3.1 h1
    exact ⟨pq,p2⟩)
   clear hb1 hb2 hb3 HNO HST HOK HSO HAL HSB;go_wp2_with (rw [<- HW.o])
   refine wp_region_held_drew (S:=(fun X=>Blk X w.heap.size (qX M M.ma M.mn M.mc M.ka M.kn M.kc M.fa M.fn M.fc M.ra M.rn M.rc M.oa M.on M.oc (some (qR g f)) M.ln M.lc M.ha M.hn M.hc) 37/\Blk X U.heap.size (qJ L a0 xs c0 a2 c2 a5 ts c5) 64/\Blk X wr.heap.size #[.bool x0,qI x1,qI x2,qI x3] 77)) (by kernel_rfl) ?_ (fun hHeld=>?_)
   .exact HS.o _ HD.o
   refine tkV 0 _ rfl (fun w hSw=>aG9 hSw.1 rfl) ?_;try simp only [yD,yE,yF,Act.put,yA,yB,yC]
   refine tkV 1 _ rfl (fun w hSw=>aLj hSw.2.2 rfl) ?_;try simp only [yD,yE,yF,Act.put,yA,yB,yC]
   refine wpAnyH_ready (rs:=[2]) (by kernel_rfl) (by simp) (AllReadyH.cons rfl (fun K hK=>?_) AllReadyH.nil);go_simp;refine (HSO1.o _ (HVW.o _ HD.o)).mono ?_;rintro e w1 ⟨rfl,hb⟩;have HB1:=zh (HD.o.trans (hb.mono HD.o.size));clear hb;try go_wp2_with fail
   refine hK.out _ _ ?_ (fun hHeld=>?_)
   .exact HS.o _ HB1.o
   clear hK K;try simp only [yD,yE,yF,Act.put,yA,yB,yC]
   cases b1
   focus
    have HN:=zh (HNA.o (by simp));refine tkV 3 ?_ rfl ?_ ?_;rotate_left
    ·(intro w hSw;(try dsimp only at hSw);go_simp;try with_reducible rfl)
    try simp only [yD,yE,yF,Act.put,yA,yB,yC]
    refine tkV 4 ?_ rfl ?_ ?_;rotate_left
    ·(intro w hSw;(try dsimp only at hSw);go_simp;try with_reducible rfl)
    try simp only [yD,yE,yF,Act.put,yA,yB,yC]
    refine tkS 5 rfl ?_;try simp only [yD,yE,yF,Act.put,yA,yB,yC]
    refine tkS 6 rfl ?_;try simp only [yD,yE,yF,Act.put,yA,yB,yC]
    refine tkS 7 rfl ?_;try simp only [yD,yE,yF,Act.put,yA,yB,yC]
    refine tkS 8 rfl ?_;try simp only [yD,yE,yF,Act.put,yA,yB,yC]
    refine tkS 9 rfl ?_;try simp only [yD,yE,yF,Act.put,yA,yB,yC]
    refine tkV 10 ?_ rfl ?_ ?_;rotate_left
    ·(intro w hSw;(try dsimp only at hSw);go_simp;try with_reducible rfl)
    try simp only [yD,yE,yF,Act.put,yA,yB,yC]
    refine tkV 11 ?_ rfl ?_ ?_;rotate_left
    ·(intro w hSw;(try dsimp only at hSw);go_simp;try with_reducible rfl)
    try simp only [yD,yE,yF,Act.put,yA,yB,yC]
    have HBx:=zh HB1.o
   rotate_left;refine tkV 3 ?_ rfl ?_ ?_;rotate_left
   ·(intro w hSw;(try dsimp only at hSw);go_simp;try with_reducible rfl)
   try simp only [yD,yE,yF,Act.put,yA,yB,yC]
   refine tkV 4 ?_ rfl ?_ ?_;rotate_left
   ·(intro w hSw;(try dsimp only at hSw);go_simp;try with_reducible rfl)
   try simp only [yD,yE,yF,Act.put,yA,yB,yC]
   refine tkV 5 ?_ rfl ?_ ?_;rotate_left
   ·(intro w hSw;(try dsimp only at hSw);go_simp;try with_reducible rfl)
   try simp only [yD,yE,yF,Act.put,yA,yB,yC]
   refine tkV 6 _ rfl (fun w hSw=>aNq (hSw.1.cell 12) rfl) ?_;try simp only [yD,yE,yF,Act.put,yA,yB,yC]
   refine tkV 7 ?_ rfl ?_ ?_;rotate_left
   ·(intro w hSw;(try dsimp only at hSw);go_simp;try with_reducible rfl)
   try simp only [yD,yE,yF,Act.put,yA,yB,yC]
   refine wpAnyH_ready (rs:=[8]) (by kernel_rfl) (by simp) (AllReadyH.cons rfl (fun K hK=>?_) AllReadyH.nil);go_simp;refine (HAL1.o _ (HVW.o _ HB1.o)).mono ?_;rintro e w2 ⟨rfl,hb⟩;have HB2:=zh (HB1.o.trans (hb.mono HB1.o.size));clear hb;try go_wp2_with fail
   refine hK.out _ _ ?_ (fun hHeld=>?_)
   .exact HS.o _ HB2.o
   clear hK K;try simp only [yD,yE,yF,Act.put,yA,yB,yC]
   cases b2
   focus
    have HN:=zh (HNB.o (by simp));refine tkV 9 ?_ rfl ?_ ?_;rotate_left
    ·(intro w hSw;(try dsimp only at hSw);go_simp;try with_reducible rfl)
    try simp only [yD,yE,yF,Act.put,yA,yB,yC]
    refine tkV 10 ?_ rfl ?_ ?_;rotate_left
    ·(intro w hSw;(try dsimp only at hSw);go_simp;try with_reducible rfl)
    try simp only [yD,yE,yF,Act.put,yA,yB,yC]
    refine tkV 11 ?_ rfl ?_ ?_;rotate_left
    ·(intro w hSw;(try dsimp only at hSw);go_simp;try with_reducible rfl)
    try simp only [yD,yE,yF,Act.put,yA,yB,yC]
    have HBx:=zh HB2.o
   rotate_left;refine tkV 9 ?_ rfl ?_ ?_;rotate_left
   ·(intro w hSw;(try dsimp only at hSw);go_simp;try with_reducible rfl)
   try simp only [yD,yE,yF,Act.put,yA,yB,yC]
   refine tkV 10 ?_ rfl ?_ ?_;rotate_left
   ·(intro w hSw;(try dsimp only at hSw);go_simp;try with_reducible rfl)
   try simp only [yD,yE,yF,Act.put,yA,yB,yC]
   refine tkV 11 ?_ rfl ?_ ?_;rotate_left
   ·(intro w hSw;(try dsimp only at hSw);go_simp;try with_reducible rfl)
   try simp only [yD,yE,yF,Act.put,yA,yB,yC]
   refine tkV 12 ?_ rfl ?_ ?_;rotate_left
   ·(intro w hSw;(try dsimp only at hSw);go_simp;try with_reducible rfl)
   try simp only [yD,yE,yF,Act.put,yA,yB,yC]
   refine tkV 13 _ rfl (fun w hSw=>aNt (hSw.2.2.cell 0) rfl) ?_;try simp only [yD,yE,yF,Act.put,yA,yB,yC]
   refine tkV 14 ?_ rfl ?_ ?_;rotate_left
   ·(intro w hSw;(try dsimp only at hSw);go_simp;try with_reducible rfl)
   try simp only [yD,yE,yF,Act.put,yA,yB,yC]
   cases x0
   focus
    have HN:=zh (HNC.o (by simp) (by simp) (by simp));refine tkS 15 rfl ?_;try simp only [yD,yE,yF,Act.put,yA,yB,yC]
    refine tkS 16 rfl ?_;try simp only [yD,yE,yF,Act.put,yA,yB,yC]
    refine tkS 17 rfl ?_;try simp only [yD,yE,yF,Act.put,yA,yB,yC]
    refine tkS 18 rfl ?_;try simp only [yD,yE,yF,Act.put,yA,yB,yC]
    refine tkS 19 rfl ?_;try simp only [yD,yE,yF,Act.put,yA,yB,yC]
    refine tkS 20 rfl ?_;try simp only [yD,yE,yF,Act.put,yA,yB,yC]
    refine tkS 21 rfl ?_;try simp only [yD,yE,yF,Act.put,yA,yB,yC]
    refine tkS 22 rfl ?_;try simp only [yD,yE,yF,Act.put,yA,yB,yC]
    refine tkS 23 rfl ?_;try simp only [yD,yE,yF,Act.put,yA,yB,yC]
    refine tkV 24 ?_ rfl ?_ ?_;rotate_left
    ·(intro w hSw;(try dsimp only at hSw);go_simp;try with_reducible rfl)
    try simp only [yD,yE,yF,Act.put,yA,yB,yC]
    refine tkV 25 ?_ rfl ?_ ?_;rotate_left
    ·(intro w hSw;(try dsimp only at hSw);go_simp;try with_reducible rfl)
    try simp only [yD,yE,yF,Act.put,yA,yB,yC]
    refine wpAnyH_done (by kernel_rfl) ?_ _;have HE:=zh (HVW.o _ HB2.o);clear HS HVW HD hHeld;go_wp2
    go_roundw
    .exact ⟨k+1,by omega,by go_num,HN.o,HE.o⟩
    .simp [qf,intOf];omega
   obtain ⟨pq,p2⟩:=HPP.o (by simp) (by simp);have HBB1:=zh (HBB.o true x1 x2 x3 pq p2);clear pq p2;refine tkV 15 _ rfl (fun w hSw=>aG9 hSw.1 rfl) ?_;try simp only [yD,yE,yF,Act.put,yA,yB,yC]
   refine tkV 16 _ rfl (fun w hSw=>aNs hSw.2.1 rfl) ?_;try simp only [yD,yE,yF,Act.put,yA,yB,yC]
   refine tkV 17 ?_ rfl ?_ ?_;rotate_left
   ·(intro w hSw;(try dsimp only at hSw);go_simp;try with_reducible rfl)
   try simp only [yD,yE,yF,Act.put,yA,yB,yC]
   refine tkV 19 _ rfl (fun w hSw=>aG9 hSw.1 rfl) ?_;try simp only [yD,yE,yF,Act.put,yA,yB,yC]
   refine tkV 20 _ rfl (fun w hSw=>aLj hSw.2.2 rfl) ?_;try simp only [yD,yE,yF,Act.put,yA,yB,yC]
   refine wpAnyH_ready (rs:=[18]) (by kernel_rfl) (by simp) (AllReadyH.cons rfl (fun K hK=>?_) AllReadyH.nil);go_simp;refine (HSB1.o _ (HVW.o _ HB2.o)).mono ?_;rintro e w3 ⟨sa,sc,rfl,hs,hb⟩;have HB3:=zh (HB2.o.trans (hb.mono HB2.o.size));have HS3:=zh hs;clear hs;clear hb;try go_wp2_with fail
   refine hK.out _ _ ?_ (fun hHeld=>?_)
   .exact HS.o _ HB3.o
   clear hK K;try simp only [yD,yE,yF,Act.put,yA,yB,yC]
   refine wpAnyH_ready (rs:=[21]) (by kernel_rfl) (by simp) (AllReadyH.cons rfl (fun K hK=>?_) AllReadyH.nil);go_simp;refine (HBB1.o _ (HVW.o _ HB3.o)).mono ?_;rintro e w4 ⟨bg,rfl,hs,hb⟩;have HB4:=zh (HB3.o.trans (hb.mono HB3.o.size));have HBE:=zh (jL sa (qP bg) (slz M.cw) sc (slz M.cw) (slz M.cw) _ _ w4 (HS3.o.bw hb) hs);rw [HDE.o] at HBE;clear hs hb HS3;try go_wp2_with fail
   refine hK.out _ _ ?_ (fun hHeld=>?_)
   .exact HS.o _ HB4.o
   clear hK K;try simp only [yD,yE,yF,Act.put,yA,yB,yC]
   refine wpAnyH_ready (rs:=[22]) (by kernel_rfl) (by simp) (AllReadyH.cons rfl (fun K hK=>?_) AllReadyH.nil);go_simp;refine HBE.o.mono ?_;rintro e w5 ⟨rfl,rfl⟩;try go_wp2_with fail
   refine hK.out _ _ ?_ (fun hHeld=>?_)
   .exact HS.o _ HB4.o
   clear hK K;try simp only [yD,yE,yF,Act.put,yA,yB,yC]
   focus
    cases b3
    focus
     have HN:=zh (HND.o (by simp) (by simp))
    rotate_left
    focus
     have HN:=zh (HNE.o (by simp) (by simp) (by simp))
    all_goals
     refine tkV 23 ?_ rfl ?_ ?_;rotate_left
     ·(intro w hSw;(try dsimp only at hSw);go_simp;try with_reducible rfl)
     try simp only [yD,yE,yF,Act.put,yA,yB,yC]
     refine tkV 24 ?_ rfl ?_ ?_;rotate_left
     ·(intro w hSw;(try dsimp only at hSw);go_simp;try with_reducible rfl)
     try simp only [yD,yE,yF,Act.put,yA,yB,yC]
     refine tkV 25 ?_ rfl ?_ ?_;rotate_left
     ·(intro w hSw;(try dsimp only at hSw);go_simp;try with_reducible rfl)
     try simp only [yD,yE,yF,Act.put,yA,yB,yC]
     refine wpAnyH_done (by kernel_rfl) ?_ _;have HE:=zh (HVW.o _ HB4.o);clear HS HVW HD hHeld;go_wp2
    focus
     go_roundw
     .exact ⟨k+1,by omega,by go_num,HN.o,HE.o⟩
     .simp [qf,intOf];omega
    go_ret;exact jD HN.o (HB.o.trans (HE.o.mono HB.o.size))
   all_goals
    refine tkS 12 rfl ?_;try simp only [yD,yE,yF,Act.put,yA,yB,yC]
    refine tkS 13 rfl ?_;try simp only [yD,yE,yF,Act.put,yA,yB,yC]
    refine tkS 14 rfl ?_;try simp only [yD,yE,yF,Act.put,yA,yB,yC]
    refine tkS 15 rfl ?_;try simp only [yD,yE,yF,Act.put,yA,yB,yC]
    refine tkS 16 rfl ?_;try simp only [yD,yE,yF,Act.put,yA,yB,yC]
    refine tkS 17 rfl ?_;try simp only [yD,yE,yF,Act.put,yA,yB,yC]
    refine tkS 18 rfl ?_;try simp only [yD,yE,yF,Act.put,yA,yB,yC]
    refine tkS 19 rfl ?_;try simp only [yD,yE,yF,Act.put,yA,yB,yC]
    refine tkS 20 rfl ?_;try simp only [yD,yE,yF,Act.put,yA,yB,yC]
    refine tkS 21 rfl ?_;try simp only [yD,yE,yF,Act.put,yA,yB,yC]
    refine tkS 22 rfl ?_;try simp only [yD,yE,yF,Act.put,yA,yB,yC]
    refine tkS 23 rfl ?_;try simp only [yD,yE,yF,Act.put,yA,yB,yC]
    refine tkS 24 rfl ?_;try simp only [yD,yE,yF,Act.put,yA,yB,yC]
    refine tkV 25 ?_ rfl ?_ ?_;rotate_left
    ·(intro w hSw;(try dsimp only at hSw);go_simp;try with_reducible rfl)
    try simp only [yD,yE,yF,Act.put,yA,yB,yC]
    refine wpAnyH_done (by kernel_rfl) ?_ _;have HE:=zh (HVW.o _ HBx.o);clear HS HVW HD hHeld;go_wp2;go_ret;exact jD HN.o (HB.o.trans (HE.o.mono HB.o.size))
  .have HY:Zh (pY (aF M.ms) L M.cs M.cw M.tn M.rz M.lz):=⟨by have:=HCS.o;omega,fun i hi=>hF i (by omega)⟩;have HB2:=zh hB;clear hB hF;go_wp2;go_ret;exact aBm HY.o (HB.o.trans (HB2.o.mono HB.o.size))
end Go.Proofs.YtcimaholejajpaaGreat
namespace Go.Proofs.YtcimaholejajpaaGreat
open Go.ChangeShapes Go.WideShapes Go.ChangeAt Go.RowKit
set_option maxRecDepth 100000 in
theorem zD:joinedFacts Tryz.pinned.checked.prog 3 Tryz.f3 Rows.fnLoadSpec Rows.fnLoadRow=true:=by
 unfold joinedFacts;simp only [Bool.and_eq_true]
 repeat' apply xA
 all_goals (as_aux_lemma=>kernel_rfl)
theorem aAn:Tryz.pinned.checked.prog.funcNamed Rows.fnLoadRow.func=some 3:=by kernel_rfl
