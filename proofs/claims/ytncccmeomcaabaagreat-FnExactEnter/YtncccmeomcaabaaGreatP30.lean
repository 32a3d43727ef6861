import Derived.Test.YtncccmeomcaabaaGreatP22
set_option maxHeartbeats 16000000
namespace Go.Proofs.YtncccmeomcaabaaGreat
open Go.RowKit Classical
open Go.Proofs.Tryz
set_option linter.all false
set_option maxRecDepth 100000
variable {T x1 x2 x3:Int}{i k:Nat}{ps:List PMod}{xs:List SlT}
theorem aP0 {m b:Int}(h:0<=pcq ps m b)(hb:b≠-1):0<=b:=by
 unfold pcq at h;by_cases c1:0<=m/\m<(ps.length:Int)
 .rw [if_pos c1,if_neg hb] at h;by_cases c2:0<=b/\b<((ps.getD m.toNat zP).bl.length:Int)
  .exact c2.1
  .rw [if_neg c2] at h;exact absurd h (by decide)
 .rw [if_neg c1] at h;exact absurd h (by decide)
theorem aNv:slk ps T (false,x1,x2,x3) ↔ (false,x1,x2,x3)=zSl:=by unfold slk;simp
theorem aF4:slk ps T (true,x1,x2,x3) ↔ 0<=x2/\0<=pcq ps x1 x2/\1<=x3/\x3<=T:=by unfold slk;simp
theorem aD0 (M:Mn)(x0:Bool)(x1 x2 x3:Int)(w:qw)(h:MnD w M):
 qC 194 #[.agg (qA M),.agg #[.bool x0,qI x1,qI x2,qI x3]] w (Yn (slk (aD M.ms) M.tn (x0,x1,x2,x3)) w):=by
 obtain ⟨U,hU,bU,kU⟩:=nwb w (qA M) 43;obtain ⟨V,hV,bV,kV⟩:=nwb U #[.bool x0,qI x1,qI x2,qI x3] 142;have hUs:U.heap.size=w.heap.size+1:=by rw [hU];simp
 have BV:=bU.trans (bV.mono bU.size);have kU':=kU.bw bV;have HIP:=zh (kP M.ma M.mn M.mc M.ms x1 x2 V (h.m.s.bw BV));rw [dW h.m x1 x2] at HIP
 have HC:=zh (fun (X:qw) (hX:qY V X)=>show (X.cell? (qR w.heap.size 0)=some (qS M.ma M.mn M.mc)/\X.cell? (qR w.heap.size 14)=some (qI M.tn))/\X.cell? (qR (w.heap.size+1) 0)=some (.bool x0)/\X.cell? (qR (w.heap.size+1) 1)=some (qI x1)/\X.cell? (qR (w.heap.size+1) 2)=some (qI x2)/\X.cell? (qR (w.heap.size+1) 3)=some (qI x3) from
  ⟨⟨(kU'.bw hX).cell 0,(kU'.bw hX).cell 14⟩,by rw [<- hUs];exact (kV.bw hX).cell 0,by rw [<- hUs];exact (kV.bw hX).cell 1,by rw [<- hUs];exact (kV.bw hX).cell 2,by rw [<- hUs];exact (kV.bw hX).cell 3⟩)
 have HB:=zh BV;have HU:=zh hU;have HV:=zh hV;rw [<- hUs] at HC;have HUS:=zh hUs;clear hU hV bU bV kU kU' kV BV h hUs;obtain ⟨⟨y0,y14⟩,s0,s1,s2,s3⟩:=HC.o V brf;cases x0 with
 | false=>
   rw [aNv];clear HIP HC y0 y14;by_cases e1:x1=0
   .by_cases e2:x2=0
    .by_cases e3:x3=0
     .subst e1 e2 e3;go_enter func194,ntmps194
      go_wp2_with (first|rw [<- HU.o]|rw [<- HV.o])
      go_ret;exact pN rfl (HB.o)
     .have e3':(x3==0)=false:=by simp [e3]
      have HX:Zh (¬ (false,x1,x2,x3)=zSl):=fun q=>e3 (by unfold zSl at q;simp at q;exact q.2.2);subst e1 e2;clear e3;go_enter func194,ntmps194
      go_wp2_with (first|rw [<- HU.o]|rw [<- HV.o])
      go_ret;exact cU HX.o (HB.o)
    .have e2':(x2==0)=false:=by simp [e2]
     have HX:Zh (¬ (false,x1,x2,x3)=zSl):=fun q=>e2 (by unfold zSl at q;simp at q;exact q.2.1);subst e1;clear e2;go_enter func194,ntmps194
     go_wp2_with (first|rw [<- HU.o]|rw [<- HV.o])
     go_ret;exact cU HX.o (HB.o)
   .have e1':(x1==0)=false:=by simp [e1]
    have HX:Zh (¬ (false,x1,x2,x3)=zSl):=fun q=>e1 (by unfold zSl at q;simp at q;exact q.1);clear e1;go_enter func194,ntmps194
    go_wp2_with (first|rw [<- HU.o]|rw [<- HV.o])
    go_ret;exact cU HX.o (HB.o)
 | true=>
   rw [aF4];by_cases c1:x2=-1
   .subst c1;have e1:((-1:Int) !=-1)=false:=by decide
    clear HIP HC;go_enter func194,ntmps194
    go_wp2_with (first|rw [<- HU.o]|rw [<- HV.o])
    go_ret;exact cU (by simp) HB.o
   have c1':(x2 !=-1)=true:=by simp [c1]
   by_cases c2:0<=pcq (aD M.ms) x1 x2
   .have HX2:=zh (aP0 c2 c1);have HC2:=zh c2;rw [xR c2] at HIP;clear c2 c1;go_enter func194,ntmps194
    go_wp2_with (first|rw [<- HU.o]|rw [<- HV.o])
    refine HIP.o.mono ?_;rintro e X1 ⟨rfl,hb1⟩;have HB1:=zh (HB.o.trans (hb1.mono HB.o.size));obtain ⟨⟨p0,p14⟩,t0,t1,t2,t3⟩:=HC.o X1 hb1;clear hb1 HIP HC HU HV y0 y14 s0 s1 s2 s3;by_cases c3:x3<1
    .go_wp2;go_ret;exact cU (fun q=>by omega) HB1.o
    go_wp2;go_ret;exact aPr ⟨fun q=>⟨HX2.o,HC2.o,by omega,q⟩,fun q=>q.2.2.2⟩ HB1.o
   .rw [xS c2] at HIP;have HC2:=zh c2;clear c1 c2;go_enter func194,ntmps194
    go_wp2_with (first|rw [<- HU.o]|rw [<- HV.o])
    refine HIP.o.mono ?_;rintro e X1 ⟨rfl,hb1⟩;have HB1:=zh (HB.o.trans (hb1.mono HB.o.size));clear hb1 HIP HC HU HV y0 y14 s0 s1 s2 s3;go_wp2;go_ret;exact cU (fun q=>by have h1:=HC2.o;have h2:=q.2.1;omega) HB1.o
theorem aLr (hk:k<i)(h:cmn (xs.getD i zSl) (xs.getD k zSl)):¬ aln xs i:=fun q=>q k hk h
theorem aLq (hF:∀ j,j<k->¬ cmn (xs.getD i zSl) (xs.getD j zSl))(h:¬ cmn (xs.getD i zSl) (xs.getD k zSl)):∀ j,j<k+1->¬ cmn (xs.getD i zSl) (xs.getD j zSl):=fun j hj=>by
 by_cases e:j=k
 .rw [e];exact h
 .exact hF j (by omega)
theorem aC6 (a:qO)(n c i:Nat)(xs:List SlT)(w:qw)(h:QS bS zSl w a n c xs)(hi:i<n):
 qC 195 #[qS a n c,qI i] w (Yn (aln xs i) w):=by
 have hl:=h.1;have hmx:=h.2.1;have hcp:=h.2.2.2;unfold maxLen at hmx;have hi':(i:Int)<(n:Int):=by omega
 obtain ⟨g,f,rfl,q0,q1,q2,q3⟩:=h.at i hi _ _ _ _ rfl;have HNO0:=zh (fun (k:Nat) (hk:k<i) (q:cmn (xs.getD i zSl) (xs.getD k zSl))=>aLr hk q);have HST0:=zh (fun (k:Nat) (hF:∀ j,j<k->¬ cmn (xs.getD i zSl) (xs.getD j zSl)) (q:¬ cmn (xs.getD i zSl) (xs.getD k zSl))=>aLq hF q);have HYES:Zh ((∀ j,j<i->¬ cmn (xs.getD i zSl) (xs.getD j zSl))->aln xs i):=fun q=>q;generalize xs.getD i zSl=x at *;obtain ⟨x0,x1,x2,x3⟩:=x;dsimp only at q0 q1 q2 q3;obtain ⟨V,hV,bV,kV⟩:=nwb w #[.bool x0,qI x1,qI x2,qI x3] 142;have HH:=zh (h.bw bV);have HV:=zh hV;have HBK:=zh (xA bV kV);have HRE:=zh (Below.refl V.heap.size V);have hic:(i:Int)<=(c:Int):=by omega
 clear hV bV kV h;go_enter func195,ntmps195
 go_wp2_with (rw [<- HV.o])
 clear q0 q1 q2 q3 HV;go_loopw [16] (fun j wr=>∃ k:Nat,k<=i/\j=qI k/\(∀ j,j<k->¬ cmn (x0,x1,x2,x3) (xs.getD j zSl))/\qY V wr) (qf i)
 .exact ⟨0,xC _,rfl,fun j hj=>absurd hj (by omega),HRE.o⟩
 .obtain ⟨k,hk,rfl,hF,hB⟩:=hrel;by_cases hlt:k<i
  .have hlt':(k:Int)<(i:Int):=by omega
   obtain ⟨g',f',hg',q0,q1,q2,q3⟩:=(HH.o.bw hB).at k (by omega) _ _ _ _ rfl;simp at hg';obtain ⟨rfl,rfl⟩:=hg';have HNO:=zh (HNO0.o k hlt);have HST:=zh (HST0.o k hF);generalize xs.getD k zSl=y at *;obtain ⟨o0,o1,o2,o3⟩:=y;dsimp only at q0 q1 q2 q3;obtain ⟨W,hW,bW,kW⟩:=nwb wr #[.bool o0,qI o1,qI o2,qI o3] 142;have BW:=hB.trans (bW.mono hB.size);have HBW:=zh BW;have HW:=zh hW;have k2:=HBK.o.2.bw BW;obtain ⟨t0,t1,t2,t3⟩:=k2.z4;obtain ⟨p0,p1,p2,p3⟩:=kW.z4;clear hW bW kW BW k2 hB hF HNO0 HST0 HYES HH HRE;cases x0 with
   | false=>
     have HN:=zh (HST.o (fun q=>by have:=q.1;cases this));clear HNO HST;go_wp2_with (rw [<- HW.o])
     go_roundw
     .exact ⟨k+1,by omega,by go_num,HN.o,HBW.o⟩
     .simp [qf,intOf];omega
   | true=>
     cases o0 with
     | false=>
       have HN:=zh (HST.o (fun q=>by have:=q.2.1;cases this));clear HNO HST;go_wp2_with (rw [<- HW.o])
       go_roundw
       .exact ⟨k+1,by omega,by go_num,HN.o,HBW.o⟩
       .simp [qf,intOf];omega
     | true=>
       by_cases c3:o3=x3
       .subst c3;have HN:=zh (HNO.o ⟨rfl,rfl,.inl rfl⟩);clear HNO HST;go_wp2_with (rw [<- HW.o])
        go_ret;exact cU HN.o (HBK.o.1.trans (HBW.o.mono HBK.o.1.size))
       .have c3':(o3==x3)=false:=by simp [c3]
        by_cases c1:o1=x1
        .by_cases c2:o2=x2
         .have HN:=zh (HNO.o ⟨rfl,rfl,.inr ⟨c1,c2⟩⟩);subst c1 c2;clear HNO HST c3;go_wp2_with (rw [<- HW.o])
          go_ret;exact cU HN.o (HBK.o.1.trans (HBW.o.mono HBK.o.1.size))
         .have c2':(o2==x2)=false:=by simp [c2]
          have HN:=zh (HST.o (fun q=>by rcases q.2.2 with e|e;exact c3 e;exact c2 e.2));subst c1;clear HNO HST c3 c2;go_wp2_with (rw [<- HW.o])
          go_roundw
          .exact ⟨k+1,by omega,by go_num,HN.o,HBW.o⟩
          .simp [qf,intOf];omega
        .have c1':(o1==x1)=false:=by simp [c1]
         have HN:=zh (HST.o (fun q=>by rcases q.2.2 with e|e;exact c3 e;exact c1 e.1));clear HNO HST c3 c1;go_wp2_with (rw [<- HW.o])
         go_roundw
         .exact ⟨k+1,by omega,by go_num,HN.o,HBW.o⟩
         .simp [qf,intOf];omega
  .have HY:=zh (HYES.o (fun j hj=>hF j (by omega)));have HB:=zh hB;clear hB hF;go_wp2;go_ret;exact pN HY.o (HBK.o.1.trans (HB.o.mono HBK.o.1.size))
theorem aMp (W:qw)(base:Nat)(hb:base<=W.heap.size):OMp (W.alloc (.cells #[] 138)) base (qS (qP W.heap.size) 0 0) [] (fun _=>W.heap.size):=⟨bI _ _ _ _ _ hb,fun i x hx=>by simp at hx,fun _ _ _ _=>aN,hb,by simp⟩
def L7P (w:qw)(n:Nat)(L:List (PMod×Mb))(e:Ending)(w':qw):Prop:=∃ a cap L' β',e=.returned (qS a n cap)/\OMp w' w.heap.size (qS a n cap) L' β'/\L'.map (fun x=>x.1)=L.map (fun x=>x.1)/\qY w w'
theorem aMr {α:Type}{t:TypeId}{sz:Nat}{f:α->List Value}{w:qw}{base:Nat}{v:Value}{xs:List α}(h:OG t sz f w base v xs):OG t sz f w.drew base v xs:=h.bw brf.drew
theorem aEu (g n cap:Nat)(L:List (PMod×Mb))(w:qw)(H:OMq w (qP g) L)(hl:L.length=n)(hn:n<=1048576):
 qC 83 #[qS (qP g) n cap] w (L7P w n L):=by
 obtain ⟨iI,hiI,hI0,hI1,hI2⟩:=info_parts jP;obtain ⟨iB,hiB,hB0,hB1,hB2⟩:=info_parts aKy;obtain ⟨iT,hiT,hiT0,hiT1,hiT2⟩:=info_parts aKw;obtain ⟨iX,hiX,hiX0,hiX1,hiX2⟩:=info_parts aKu;obtain ⟨iM,hiM,hiM0,hiM1,hiM2⟩:=info_parts aKx;have S0:=aMp w w.heap.size aN;have B0:qY w (w.alloc (.cells #[] 138)):=bal;have HS0:=zh (xA S0 B0);have HH:=zh H;clear S0 B0 H;go_enter func83,ntmps83
 go_wp2;go_loopw [3,4] (fun v i wr=>∃ j:Nat,j<=n/\i=qI j/\∃ L' β',OMp wr w.heap.size v L' β'/\L'.map (fun x=>x.1)=(L.take j).map (fun x=>x.1)/\qY w wr) (fun _ i _=>n-(intOf i).toNat)
 .exact ⟨0,xC _,rfl,[],_,HS0.o.1,by simp,HS0.o.2⟩
 .obtain ⟨j,hj,rfl,L',β',O,hL,B⟩:=hrel;have hl':L'.length=j:=by have:=congrArg List.length hL;simp at this;omega
  obtain ⟨av,cv,rfl⟩:=aR O.o;rw [hl'] at O ⊢;generalize wr=W0 at *;clear HS0;by_cases hlt:j<n
  .have hlt':(j:Int)<(n:Int):=by omega
   obtain ⟨⟨P,⟨b1,d1,b2,d2,bq,b3,d3,b5,d5,b6,d6,b7,d7⟩⟩,hx⟩:∃ x,L[j]?=some x:=⟨L[j],xN (by omega)⟩;have HSR:=zh (fun (X:qw) (hX:qY W0 X)=>(HH.o.bw (B.trans (hX.mono B.size))).srcM hx);have HO:=zh (xA O (xA hL B));obtain ⟨⟨s0,s1,s2,s3,s4,s5,s6,s7⟩,_⟩:=HSR.o W0 brf;obtain ⟨w1,hw1⟩:=eqx (W0.alloc (.cells (qM P.nm b1 P.tz.length d1 b2 bq.length d2 b3 P.dz.length d3 P.bss b5 P.rz.length d5 b6 P.ss.length d6 b7 P.es.length d7) 138));have C1:Cpm W0 w1 W0.heap.size (qM P.nm b1 P.tz.length d1 b2 bq.length d2 b3 P.dz.length d3 P.bss b5 P.rz.length d5 b6 P.ss.length d6 b7 P.es.length d7):=by rw [hw1];exact ⟨bal,Blk.new _ _ _,aN⟩
   have b1':qY w1 (w1.alloc (.cells #[] 3)):=bal;obtain ⟨⟨q0,q1,q2,q3,q4,q5,q6,q7⟩,mo,R⟩:=HSR.o _ (C1.b.trans (b1'.mono C1.b.size));have HOW:=zh (bI 3 1 clI w1 w1.heap.size aN);have HSC:=zh mo.t;have ht:=R.t.1;have hbn:bq.length<=1048576:=by have h1:=R.b.1;rw [<- mo.bls,xH] at h1;exact h1
   have HRR:=zh R;have HC1:=zh C1;have HW1:=zh hw1;have HXX:=zh hx;clear O hL B C1 hw1 b1' mo hx R;go_wp2_with (first|(at_builtin;refine bG rfl _ _ 25 rfl w1.heap.size 3 iI (qI 0) 1 8 underlying25 hiI hI0 hI1 hI2 rfl (by decide) (qS (qP w1.heap.size) 0 0) [] rfl HOW.o b1 P.tz.length d1 P.tz rfl HSC.o (fun _=>rfl) (fun y u hu=>by simp [clI] at hu;subst hu;rfl) (by unfold maxLen;simp;omega) (by simp;omega) (by simp) ?_;intro v' w2 O2 G2;rw [List.nil_append] at O2;obtain ⟨t1,e1,rfl⟩:=aR O2;obtain ⟨k2,C2,R2,T2⟩:=HC1.o.row 1 O2 (by decide) G2;have z1:=k2.cell 1;have zf1:=k2.frozen 1;have kk:=C2.k.alloc (.cells #[] 25);have z2:=kk.cell 2;have zf2:=kk.frozen 2;have HC2:=zh (Cpb.new (v2:=qS b2 bq.length d2) (C2:Cpm W0 _ W0.heap.size (qM P.nm t1 P.tz.length e1 b2 bq.length d2 b3 P.dz.length d3 P.bss b5 P.rz.length d5 b6 P.ss.length d6 b7 P.es.length d7)) (OG.mono R2 HC1.o.b.size));clear kk k2 C2 R2 T2 O2 G2 q0 q1 q2 q3 q4 q5 q6 q7)|rw [<- HW1.o])
   try unfold qY at *
   rw [aL] at HC2;clear s0 s1 s2 s3 s4 s5 s6 s7;go_loopw [7] (fun i wr=>∃ (k:Nat) (a2:qO) (c2:Nat) (bl:List Bk),k<=bq.length/\i=qI k/\bl.map (fun B=>B.2.2.2)=(bq.take k).map (fun B=>B.2.2.2)/\Cpb W0 wr W0.heap.size w2.heap.size t1 e1 P.tz a2 c2 bl (.string P.nm) (qS b3 P.dz.length d3) (qI P.bss) (qS b5 P.rz.length d5) (qS b6 P.ss.length d6) (qS b7 P.es.length d7)) (qf bq.length)
   .exact ⟨0,_,_,[],xC _,rfl,by simp,HC2.o⟩
   .obtain ⟨k,a2,c2,bl,hk,rfl,hbl,C⟩:=hrel;have hbll:bl.length=k:=by have:=congrArg List.length hbl;simp at this;omega
    have hb255:bl.length<=1048576:=by omega
    have HBL:=zh hbll;clear z1 zf1 z2 zf2 HC2 hbll;generalize w2.heap.size=lo at *;by_cases hkl:k<bq.length
    .have hkl':(k:Int)<(bq.length:Int):=by omega
     have hk0:(0:Int)<=(k:Int):=by omega
     have hj0:(0:Int)<=(j:Int):=by omega
     obtain ⟨w5,hw5⟩:=eqx (wr.alloc (.cells #[] 3));have bw5:qY wr w5:=by rw [hw5];exact bal
     have ow5:OG 3 1 clI w5 wr.heap.size (qS (qP wr.heap.size) 0 0) []:=by rw [hw5];exact bI _ _ _ _ _ aN
     obtain ⟨⟨_,_,r2,_⟩,mo,_⟩:=HSR.o wr C.c.b;have C5:=C.bw bw5;obtain ⟨⟨_,_,p2,_⟩,mo5,R5⟩:=HSR.o w5 C5.c.b;obtain ⟨gb,A,Cc,zs,eb2,hB,p3,oz⟩:=mo5.b k hkl;subst eb2;have p1:=C5.c.k.cell 2;simp only [Array.getElem?_eq_getElem,List.getElem?_toArray,List.getElem?_cons_succ,List.getElem?_cons_zero] at p1;have hzl:zs.length<=1048576:=(R5.b.2 zs (by rw [<- mo5.bls,List.mem_map];exact ⟨_,List.mem_of_getElem? hB,rfl⟩)).1;have HW5:=zh hw5;have HOW5:=zh ow5;have HOZ:=zh oz;have HC:=zh (xA C bw5);have HBB:=zh (xA hB hbl)
     have HP3:=zh (fun (X:qw) (hX:qY W0 X)=>(show X.cell? (qR g (j*8+2))=some (qS (qP gb) bq.length d2)/\X.cell? (qR gb k)=some (qS A zs.length Cc) from by
      obtain ⟨⟨_,_,y2,_⟩,moX,_⟩:=HSR.o X hX;obtain ⟨gb',A',Cc',zs',e',hB',y3,_⟩:=moX.b k hkl;rw [hB] at hB';simp at e' hB';obtain ⟨rfl,_,rfl,rfl⟩:=hB';subst e'
      exact ⟨y2,y3⟩))
     clear hw5 bw5 ow5 mo C5 mo5 R5 oz C hB hbl;go_wp2_with (rw [<- HW5.o])
     have HSZ5:=zh HC.o.2.size
     go_region_law
      (first
        | (refine aDz (by rfl) _ _ 25 (by rfl) wr.heap.size 3 iI (qI 0) 1 8 underlying25 hiI hI0 hI1 hI2 rfl (by decide) (qS (qP wr.heap.size) 0 0) [] (by rfl) (by first|exact HOW5.o|exact aMr HOW5.o) A zs.length Cc zs (by rfl) (by first|exact HOZ.o|exact HOZ.o.bw brf.drew) (fun _=>rfl) (fun y u hu=>by simp [clI] at hu;subst hu;rfl) (by unfold maxLen;simp;omega) (by simp;omega) (by exact HSZ5.o) ?_;intro v' w6 O6 G6;rw [List.nil_append] at O6;obtain ⟨A6,D6,rfl⟩:=aR O6;have hb6:qY wr w6:=(by first|exact oZ HC.o.2 HSZ5.o rfl G6|exact oZ HC.o.2.drew HSZ5.o rfl G6);have C6:=HC.o.1.bw hb6;obtain ⟨p2',p3'⟩:=HP3.o w6 C6.c.b;have p1':w6.cell? (qR W0.heap.size 2)=some (qS a2 bl.length c2):=C6.c.k.cell 2;have p1a:(w6.alloc (.cells #[qS A6 zs.length D6] 25)).cell? (qR W0.heap.size 2)=some (qS a2 bl.length c2):=(C6.c.k.alloc _).cell 2;have HOW6:=zh (C6.bw (brf.alloc aN (.cells #[qS A6 zs.length D6] 25))).b.head;have HNW6:=zh (bT w6 _ 25 [qS A6 zs.length D6] rfl);have HBK:=zh (fun w4 d hown hgr=>HC.o.1.bank (w4:=w4) (d:=d) (O6.bw (brf.alloc aN (.cells #[qS A6 zs.length D6] 25))) (hb6.trans ((brf.alloc aN (.cells #[qS A6 zs.length D6] 25)).mono hb6.size)) hown hgr);have HSZ6:=zh (C6.bw (brf.alloc aN (.cells #[qS A6 zs.length D6] 25))).lh;clear O6 G6 hb6 C6)
        | (refine step_append_lies _ (by rfl) _ _ 114 (by rfl) lo 25 iB (qS none 0 0) 1 24 underlying114 hiB hB0 hB1 hB2 rfl (by decide) (qS a2 bl.length c2) bl.length (bl.map fun B=>qS B.1 B.2.1 B.2.2.1) (by rfl) HOW6.o (qR w6.heap.size 0) 1 1 [qS A6 zs.length D6] (by rfl) (by rfl) HNW6.o (by intro u hu;simp at hu;subst hu;rfl) (by decide) (by unfold maxLen;omega) (by omega) HSZ6.o _ rfl ?_;intro g4 c4 w4 hown hgr hat hlt4;have HB4:=zh (HBK.o w4 _ hown hgr);have HP5:=zh (HP3.o _ (HB4.o.2.choose_spec.choose_spec.2.c.b));obtain ⟨p24,p34⟩:=HP3.o w4 HB4.o.1.b;have p14:w4.cell? (qR W0.heap.size 2)=some (qS a2 bl.length c2):=HB4.o.1.k.cell 2;have f4:=HB4.o.1.k.frozen 2;clear hown hgr hat))
     all_goals
      clear p1 p1' p1a p14 p2 p2' p24 p3 p3' p34 f4 HOW6 HNW6 HBK HSZ6 HP5;go_wp2
      go_roundw
      .obtain ⟨a',c',ed,CF⟩:=HB4.o.2;exact ⟨k+1,a',c',_,by omega,by go_num,by rw [List.map_append,HBB.o.2,lC HBB.o.1];rfl,CF⟩
      .simp [qf,intOf];omega
    .have hkl':¬ (k:Int)<(bq.length:Int):=by omega
     obtain rfl:k=bq.length:=by omega
     rw [List.take_length] at hbl;have hj0:(0:Int)<=(j:Int):=by omega
     obtain ⟨⟨_,_,r2,r3,_⟩,mo,R⟩:=HSR.o wr C.c.b;have HCA:=zh (aC5 b3 P.dz.length d3 P.dz wr mo.d R.d.2 rfl (by have:=R.d.1;omega));have HC:=zh C;have HBB:=zh (show bl.map (fun B=>B.2.2.2)=P.bl by rw [hbl];exact mo.bls);clear C mo R hbl;go_wp2_with fail
     refine HCA.o.mono ?_;rintro e w7 ⟨a3,c3,rfl,o7,k7⟩;obtain ⟨C7,D7,P7,T7,_⟩:=HC.o.row (v3':=qS a3 P.dz.length c3) (aP3 o7) k7 (by decide) 3 rfl;have y3:=C7.c.k.cell 3;have yf3:=C7.c.k.frozen 3;obtain ⟨X7,hX7⟩:=eqx (w7.setCell ⟨W0.heap.size,3,none⟩ (qS a3 P.dz.length c3));rw [<- hX7] at D7 P7 T7;obtain ⟨⟨_,_,_,_,_,r5,_⟩,mo7,R7⟩:=HSR.o _ (D7.bw (brf.alloc aN (.cells #[] 3))).c.b;have hrl:=R7.r.1;have hil:=R7.i.1;have hel:=R7.e.1;have HOW7:=zh (bI 3 1 clI X7 X7.heap.size aN);have HSC7:=zh mo7.r;have HD7:=zh (xA D7 (xA P7 (xM HC.o.c.b.size (Nat.le_refl wr.heap.size))));have HX7:=zh hX7;clear C7 D7 P7 T7 hX7 mo7 R7 o7 k7 r2 r3 HCA
     go_wp2_with (first
      | (at_builtin;refine bG rfl _ _ 25 rfl X7.heap.size 3 iI (qI 0) 1 8 underlying25 hiI hI0 hI1 hI2 rfl (by decide) (qS (qP X7.heap.size) 0 0) [] rfl HOW7.o b5 P.rz.length d5 P.rz rfl HSC7.o (fun _=>rfl) (fun y u hu=>by simp [clI] at hu;first|(subst hu;rfl)|(rcases hu with rfl|rfl|rfl<;>rfl)) (by unfold maxLen;simp;omega) (by simp;omega) (by simp) ?_;intro v' w8 O8 G8;rw [List.nil_append] at O8;obtain ⟨a5,c5,rfl⟩:=aR O8;obtain ⟨C8,D8,P8,T8,_⟩:=HD7.o.1.row (v5':=qS a5 P.rz.length c5) O8 (jM G8) (by decide) 5 rfl;have HAP:=zh (HD7.o.1.apart O8);have y5:=C8.c.k.cell 5;have yf5:=C8.c.k.frozen 5;obtain ⟨X8,hX8⟩:∃ X8,X8=w8.setCell (qR W0.heap.size 5) (qS a5 P.rz.length c5):=⟨_,rfl⟩;rw [<- hX8] at D8 P8 T8;obtain ⟨⟨_,_,_,_,_,_,r6,_⟩,mo8,_⟩:=HSR.o _ (D8.bw (brf.alloc aN (.cells #[] 9))).c.b;have HOW8:=zh (bI 9 1 clT X8 X8.heap.size aN);have HSC8:=zh mo8.i;have HD8:=zh (xA D8 (xA P8 (cG T8 HD7.o.1.c.k HD7.o.2.1 (by decide))));have HX8:=zh hX8;clear C8 D8 P8 T8 hX8 mo8 O8 G8 r5)
      | (at_builtin;refine bG rfl _ _ 115 rfl X8.heap.size 9 iT (.string ⟨#[]⟩) 1 16 underlying115 hiT hiT0 hiT1 hiT2 rfl (by decide) (qS (qP X8.heap.size) 0 0) [] rfl HOW8.o b6 P.ss.length d6 P.ss rfl HSC8.o (fun _=>rfl) (fun y u hu=>by simp [clT] at hu;first|(subst hu;rfl)|(rcases hu with rfl|rfl|rfl<;>rfl)) (by unfold maxLen;simp;omega) (by simp;omega) (by simp) ?_;intro v' w9 O9 G9;rw [List.nil_append] at O9;obtain ⟨a6,c6,rfl⟩:=aR O9;obtain ⟨C9,D9,P9,T9,_⟩:=HD8.o.1.row (v6':=qS a6 P.ss.length c6) O9 (jM G9) (by decide) 6 rfl;have y6:=C9.c.k.cell 6;have yf6:=C9.c.k.frozen 6;obtain ⟨X9,hX9⟩:∃ X9,X9=w9.setCell (qR W0.heap.size 6) (qS a6 P.ss.length c6):=⟨_,rfl⟩;rw [<- hX9] at D9 P9 T9;obtain ⟨⟨_,_,_,_,_,_,_,r7⟩,mo9,_⟩:=HSR.o _ (D9.bw (brf.alloc aN (.cells #[] 163))).c.b;have HOW9:=zh (bI 163 3 clX X9 X9.heap.size aN);have HSC9:=zh mo9.e;have HD9:=zh (xA D9 (xA P9 (xA (cG T9 HD8.o.1.c.k HD8.o.2.1 (by decide)) (cG T9 HD8.o.1.c.k HD8.o.2.2 (by decide)))));have HX9:=zh hX9;clear C9 D9 P9 T9 hX9 mo9 O9 G9 r6)
      | (at_builtin;refine bG rfl _ _ 136 rfl X9.heap.size 163 iX _ 3 32 underlying136 hiX hiX0 hiX1 hiX2 rfl (by decide) (qS (qP X9.heap.size) 0 0) [] rfl HOW9.o b7 P.es.length d7 P.es rfl HSC9.o (fun _=>rfl) (fun y u hu=>by simp [clX] at hu;first|(subst hu;rfl)|(rcases hu with rfl|rfl|rfl<;>rfl)) (by unfold maxLen;simp;omega) (by simp;omega) (by simp) ?_;intro v' w10 O10 G10;rw [List.nil_append] at O10;obtain ⟨a7,c7,rfl⟩:=aR O10;obtain ⟨C10,D10,P10,T10,_⟩:=HD9.o.1.row (v7':=qS a7 P.es.length c7) O10 (jM G10) (by decide) 7 rfl;have y7:=C10.c.k.cell 7;have yf7:=C10.c.k.frozen 7;obtain ⟨XX,hXX⟩:∃ XX,XX=w10.setCell (qR W0.heap.size 7) (qS a7 P.es.length c7):=⟨_,rfl⟩;rw [<- hXX] at D10 P10 T10;have HD10:=zh (xA D10 (xA P10 (xA (cG T10 HD9.o.1.c.k HD9.o.2.1 (by decide)) (xA (cG T10 HD9.o.1.c.k HD9.o.2.2.1 (by decide)) (cG T10 HD9.o.1.c.k HD9.o.2.2.2 (by decide))))));obtain ⟨x0,x1,x2,x3,x4,x5,x6,x7⟩:=Blk.eight' D10.c.k;have HXE:=zh hXX;have bXX:qY XX (XX.alloc (.cells (qM P.nm t1 P.tz.length e1 a2 bl.length c2 a3 P.dz.length c3 P.bss a5 P.rz.length c5 a6 P.ss.length c6 a7 P.es.length c7) 138)):=bal;have hsX:=xM HO.o.2.2.size D10.c.b.size;have HOWX:=zh (aGb hl' (HO.o.1.bw (D10.c.b.trans (bXX.mono D10.c.b.size))).o);have HNWX:=zh (bT XX (qM P.nm t1 P.tz.length e1 a2 bl.length c2 a3 P.dz.length c3 P.bss a5 P.rz.length c5 a6 P.ss.length c6 a7 P.es.length c7) 138 (clB (P,(⟨t1,e1,a2,c2,bl,a3,c3,a5,c5,a6,c6,a7,c7⟩:Mb))) rfl);have hwr:=xM HC.o.c.b.size (Nat.le_refl wr.heap.size);have HMO:=zh (HD10.o.1.done HBB.o HRR.o.d.2 HD10.o.2.2.2.2 HC.o.c.b.size HD10.o.2.2.2.1 HD7.o.1.c.b.size HD10.o.2.2.1 HD8.o.1.c.b.size HD10.o.2.1 HD9.o.1.c.b.size HAP.o);have HPU:=zh (fun (v':Value) (w4:qw) hown hgr=>xA (HO.o.1.push (x:=(P,(⟨t1,e1,a2,c2,bl,a3,c3,a5,c5,a6,c6,a7,c7⟩:Mb))) (v':=v') (w4:=w4) hl' HD10.o.1.c.b HMO.o HRR.o bXX hown hgr) (aEc HO.o.1 HO.o.2.2 (HD10.o.1.c.b.trans (bXX.mono HD10.o.1.c.b.size)) hgr));clear C10 D10 P10 T10 hXX O10 G10 r7 bXX hwr)
      | (at_builtin;refine wpList_append_own _ rfl _ _ 36 rfl w.heap.size 138 iM _ 8 _ underlying36 hiM hiM0 hiM1 hiM2 rfl (by decide) (qS av j cv) j (L'.flatMap clB) rfl HOWX.o (qR XX.heap.size 0) 1 1 (clB (P,(⟨t1,e1,a2,c2,bl,a3,c3,a5,c5,a6,c6,a7,c7⟩:Mb))) rfl rfl HNWX.o (by intro u hu;simp [clB,clH,hdP] at hu;rcases hu with rfl|rfl|rfl|rfl|rfl|rfl|rfl|rfl<;>rfl) (by unfold maxLen;omega) (by omega) (by simp;omega) ?_;intro v' w4 hown hgr _;have HP:=zh (HPU.o v' w4 hown hgr);clear hown hgr HPU HOWX HNWX x0 x1 x2 x3 x4 x5 x6 x7)
      | rw [<- HX7.o]|rw [<- HX8.o]|rw [<- HX9.o]|rw [<- HXE.o])
     go_roundw
     .exact ⟨j+1,by omega,by go_num,_,_,HP.o.1,by rw [List.map_append,HO.o.2.1,lC HXX.o];rfl,HP.o.2⟩
     .simp [qf,intOf];omega
  .have hlt':¬ (j:Int)<(n:Int):=by omega
   obtain rfl:j=n:=by omega
   rw [<- hl,List.take_length] at hL;have HO:=zh (xA O (xA hL B));clear O hL B;go_wp2;go_ret;exact ⟨av,cv,L',β',rfl,HO.o.1,HO.o.2.1,HO.o.2.2⟩
