import Derived.Test.YtcimaholejajpaaGreatF08
set_option linter.all false
set_option maxHeartbeats 2000000
namespace Go.Proofs.YtcimaholejajpaaGreat
open Go.RowKit
open Go.Proofs.Tryz
set_option maxRecDepth 100000
theorem aAy (a s l:Int)(w:qw)(hl:8<=l)(hl2:l<=14)(ha:0<=a)(hs:0<s)(has:a+s<=262144):
 qC 153 (qT l a s) w (zO w (bH a l) l (cnt l (qOf a (a+s) l)) (qOf a (a+s) l)):=by
 obtain ⟨P,hP⟩:∃ P,(2:Int)^(l-3).toNat=P:=⟨_,rfl⟩;obtain ⟨N,hN⟩:∃ N,(2:Int)^l.toNat=N:=⟨_,rfl⟩;obtain ⟨g1,g2,g3,g4,g5,g6,g7⟩:=oC a l P N (by omega) (by omega) hP hN ha (by omega);obtain ⟨b0,b1,b2,b3,b4⟩:=kH a l N (by omega) (by omega) hN ha;have hdm:=mR a N ha (by omega);have hjle:=aNw a (a+s) l g5;have HIN:=zh (aJb a (a+s) l P N (by omega) hl2 hP hN ha (by omega) has)
 have HQ:=zh (show qOf a (a+s) l=bN (cF a l) (jj a (a+s) l)/\cnt l (qOf a (a+s) l)=(jj a (a+s) l:Int)*P from by
  have e:=aGh a (a+s) l hl;refine ⟨e,?_⟩;rw [e]
  exact mT l P hP _ _ g5 hjle)
 obtain ⟨b,hb⟩:=eqx (a-a%N);have hbo:bH a l=b:=by unfold bH;rw [hN,hb]
 rw [<- hb] at b0 b1 b2 hdm;have HP2:=zh (fun w=>eG l (by omega) (by omega) w);rw [hN] at HP2;have hwf:(Lit.int .i64 b).wf=true:=by simp [Lit.wf,IntKind.min,IntKind.max,IntKind.bits,IntKind.signed];omega
 have HR:=zh (fun w=>kP b l 0 false false false w hwf);have hrok:rok b l 0=true:=by unfold rok;rw [hN];simp;omega
 rw [hrok] at HR;rw [hbo] at HIN ⊢;generalize cF a l=i0 at *;generalize jj a (a+s) l=j at *;generalize qOf a (a+s) l=q at *;have hd8:N/8=P:=by omega
 have hN1:N<=16384:=by omega
 have hN0:0<N:=by omega
 clear hP hN g1 g4 g6 g7 hrok hbo b2 b3 b4 hb hwf;go_enter func153,ntmps153
 go_wp2_with fail
 refine (HP2.o _).mono ?_;rintro e w1 ⟨rfl,rfl⟩;go_wp2_with fail
 refine (HR.o _).mono ?_;rintro e w2 ⟨rfl,hb2⟩;have kz:=((Blk.new w #[qI 0,qI 0,qI 0,.bool false,.bool false,.bool false] 177).alloc (.cells #[qI b,qI l,qI 0,.bool false,.bool false,.bool false] 177)).bw hb2;have kr:=(Blk.new (w.alloc (.cells #[qI 0,qI 0,qI 0,.bool false,.bool false,.bool false] 177)) #[qI b,qI l,qI 0,.bool false,.bool false,.bool false] 177).bw hb2;try unfold qY at *
 simp only [xF] at kr;have HB2:=zh ((((Below.refl w.heap.size w).alloc aL (.cells #[qI 0,qI 0,qI 0,.bool false,.bool false,.bool false] 177)).alloc (by simp) (.cells #[qI b,qI l,qI 0,.bool false,.bool false,.bool false] 177)).trans (hb2.mono (by simp;omega)));have KZ:=zh kz;have KR:=zh kr;clear kz kr hb2;go_wp2_with fail
 rw [hd8];have b1':b<=262144:=by omega
 clear hd8 hdm b1 hN1 hN0
 have HOFF:=zh (show ∀ i,i<=8->∃ o,o=2^i-1-bN i0 (ci i0 j i)/\o<=255 from fun i hi=>⟨_,rfl,by
  have:2^i<=2^8:=Nat.pow_le_pow_right (by omega) hi
  omega⟩)
 go_loopw [12,13] (fun c x wr=>∃ (i o:Nat),i<=8/\c=qI ((ci i0 j i:Int)*P)/\x=qI (i:Int)/\o=2^i-1-bN i0 (ci i0 j i)/\Blk wr (w.heap.size+1) #[qI b,qI l,qI (o:Int),.bool false,.bool false,.bool false] 177/\Blk wr w.heap.size #[qI 0,qI 0,qI 0,.bool false,.bool false,.bool false] 177/\qY w wr) (fun _ x _=>8-(intOf x).toNat)
 .have h0:ci i0 j 0=0:=by simp [ci]
  exact ⟨0,0,by omega,by rw [h0];simp,rfl,by simp,KR.o,KZ.o,HB2.o⟩
 .obtain ⟨i,o,hi,rfl,rfl,ho,kr,kz,hB⟩:=hrel
  have ho8:o<=255:=by
   have:2^i<=2^8:=Nat.pow_le_pow_right (by omega) hi;omega
  have hci:ci i0 j i<=8:=by unfold ci;omega
  obtain ⟨c,hc⟩:∃ c:Int,c=(ci i0 j i:Int)*P:=⟨_,rfl⟩;have hc0:0<=c:=by rw [hc];exact Int.mul_nonneg (by omega) (by omega)
  have hc1:c<=16384:=by
   have:(ci i0 j i:Int)*P<=8*P:=Int.mul_le_mul_of_nonneg_right (by omega) (by omega);omega
  have HCC:=zh hc;rw [<- hc];have HOO:=zh ho;have HB:=zh hB;have KR2:=zh kr;have KZ2:=zh kz;obtain ⟨q1,q2,q3,q4,q5,q6,q7⟩:=kz.six';obtain ⟨p1,p2,p3,p4,p5,p6,p7⟩:=kr.six';clear hc ho kr kz hB HB2 KZ KR;by_cases h8:i<8
  .have hiP0:0<=(i:Int)*P:=Int.mul_nonneg (by omega) (by omega)
   have hiP1:(i:Int)*P<=16384:=by
    have:(i:Int)*P<=8*P:=Int.mul_le_mul_of_nonneg_right (by omega) (by omega);omega
   have hin:=HIN.o i h8;by_cases hp:i0<=i/\i<i0+j
   .obtain ⟨k1,k2,k3⟩:=hin.2 hp;have HN:=zh (aN5 i0 g5 j (by omega) i h8 hp);clear hin hp;go_wp2_with fail
    constructor
    .exact ⟨i+1,o,by omega,by rw [HN.o.1,HCC.o];congr 1;rw [Int.natCast_add,Int.add_mul];simp,by go_num,by rw [HOO.o];exact HN.o.2,KR2.o,KZ2.o,HB.o⟩
    .simp [intOf];omega
   .have HN:=zh (aMz i0 g5 j (by omega) i h8 ⟨by omega,hjle⟩);obtain ⟨X,hX⟩:∃ X:Nat,X=2^i:=⟨_,rfl⟩
    have hX8:X<=256:=by
     have:2^i<=2^8:=Nat.pow_le_pow_right (by omega) hi;omega
    have HP3:Zh (∀ w,qC 164 #[qI (i:Int)] w fun e w'=>e=.returned (qI (X:Int))/\w'=w):=fun w=>(eG (i:Int) (by omega) (by omega) w).mono fun e w' h=>⟨by rw [h.1,hX];simp,h.2⟩;have HX:=zh hX
    have hor:(b+(i:Int)*P<a)\/(a<=b+(i:Int)*P/\a+s<b+(i:Int)*P+P)\/(a<=b+(i:Int)*P/\b+(i:Int)*P+P<=a+s/\a%P≠0):=by
     by_cases u1:a<=b+(i:Int)*P
     .by_cases u2:b+(i:Int)*P+P<=a+s
      .exact Or.inr (Or.inr ⟨u1,u2,fun u3=>hp (hin.1 ⟨u1,u2,u3⟩)⟩)
      .exact Or.inr (Or.inl ⟨u1,by omega⟩)
     .exact Or.inl (by omega)
    clear hin hp hX
    have HREL:=zh (show ∀ W,W=(wr.setCell (qR (w.heap.size+1) 2) (qI ((o:Int)+(X:Int)))).drew->∃ (i_1 o:Nat),i_1<=8/\qI c=qI ((ci i0 j i_1:Int)*P)/\qI ((i:Int)+1)=qI (i_1:Int)/\o=2^i_1-1-bN i0 (ci i0 j i_1)/\Blk W (w.heap.size+1) #[qI b,qI l,qI (o:Int),.bool false,.bool false,.bool false] 177/\Blk W w.heap.size #[qI 0,qI 0,qI 0,.bool false,.bool false,.bool false] 177/\qY w W from by
     rintro W rfl;refine ⟨i+1,o+X,by omega,by rw [HN.o.1,HCC.o],by simp,by rw [HOO.o,HX.o];exact HN.o.2,?_,(show Blk (wr.setCell (qR (w.heap.size+1) 2) (qI ((o:Int)+(X:Int)))) _ _ _ from Blk.other KZ2.o _ _ (by simp)),(HB.o.setCell (by simp) _).drew⟩;have:=Blk.set KR2.o 2 (qI ((o:Int)+(X:Int)));rw [Int.natCast_add]
     exact this)
    have hwr:IntKind.i64.wrap ((o:Int)+(X:Int))=(o:Int)+(X:Int):=mS;rcases hor with u|⟨u1,u2⟩|⟨u1,u2,u3⟩
    .go_wp2_with fail
     go_region_with (go_at_call 164;refine (HP3.o _).mono ?_;rintro e w3 ⟨rfl,rfl⟩)
     all_goals
      try rw [hwr]
      go_wp2_with fail
      constructor
      .exact HREL.o _ rfl
      .simp [intOf];omega
    .have u2n:¬ (b+(i:Int)*P+P<=a+s):=by omega
     go_wp2_with fail
     all_goals first
      | (exfalso;omega)
      | (go_region_with (go_at_call 164;refine (HP3.o _).mono ?_;rintro e w3 ⟨rfl,rfl⟩)
         all_goals (try rw [hwr])
         all_goals go_wp2_with fail
         all_goals (refine ⟨HREL.o _ rfl,?_⟩;simp [intOf];omega))
    .have u3':(a%P==0)=false:=by simpa using u3
     clear u3;go_wp2_with fail
     go_region_with (go_at_call 164;refine (HP3.o _).mono ?_;rintro e w3 ⟨rfl,rfl⟩)
     all_goals
      try rw [hwr]
      go_wp2_with fail
      constructor
      .exact HREL.o _ rfl
      .simp [intOf];omega
  .have hi8:i=8:=by omega
   subst hi8
   have hq:(o:Int)=255-(q:Int):=by
    have:=HOO.o;rw [aIc i0 g5 j (by omega) hjle,<- HQ.o.1] at this;have hq255:q<256:=by rw [HQ.o.1];exact jS i0 g5 j (by omega) hjle
    omega
   have hc':cnt l q=c:=by rw [HQ.o.2,HCC.o,aIc i0 g5 j (by omega) hjle]
   have HC2:=zh hc';have HQ2:=zh hq;clear hq hc';go_wp2_with fail
   rw [HC2.o];refine zI w _ _ b l (o:Int) c q ?_ ?_ (zH KZ2.o b l (o:Int)) (jO aL HB.o b l (o:Int)) (fun _=>HQ2.o)
   .rfl
   .rfl
theorem aCh (a s l:Int)(w:qw)(hl:5<=l)(hl2:l<=14)(ha:0<=a)(hs:0<s)(has:a+s<=262144):
 qC 153 (qT l a s) w (zO w (bH a l) l (cnt l (qOf a (a+s) l)) (qOf a (a+s) l)):=by
 by_cases h:l<8
 .exact uE a s l w hl h ha hs has
 .exact aAy a s l w (by omega) hl2 ha hs has
theorem aBx (f s:Int)(w:qw)(h1:-9223372036854775808<=f/\f<=9223372036854775807)(h2:-9223372036854775808<=s/\s<=9223372036854775807)(h:oS f s=false):
 qC 123 #[qI f,qI s] w (lJ w false []):=by
 have HO:=zh (rC w w.heap.size aL);have HB:=zh ((Below.refl w.heap.size w).alloc aL (.cells #[] 177))
 have HE:=zh (show ∀ e W,W=w.alloc (.cells #[] 177)->e=Ending.returned (.tuple #[qS (qP w.heap.size) 0 0,.bool false])->lJ w false [] e W from by
  rintro e W rfl rfl
  exact ⟨_,0,0,rfl,HO.o,HB.o⟩)
 have hor:f<0\/(0<=f/\s<0)\/(0<=f/\0<=s/\262144<f)\/(0<=f/\0<=s/\f<=262144/\262144<s)\/(0<=f/\0<=s/\f<=262144/\s<=262144/\262144<f+s)\/(0<=f/\0<=s/\f<=262144/\s<=262144/\f+s<=262144/\f%32≠0)\/(0<=f/\0<=s/\f<=262144/\s<=262144/\f+s<=262144/\f%32=0/\s%32≠0):=by
  unfold oS grn at h;simp at h;omega
 clear h;rcases hor with u|⟨u1,u2⟩|⟨u1,u2,u3⟩|⟨u1,u2,u3,u4⟩|⟨u1,u2,u3,u4,u5⟩|⟨u1,u2,u3,u4,u5,u6⟩|⟨u1,u2,u3,u4,u5,u6,u7⟩
 case inr.inr.inr.inr.inr.inl=>
  have u6':(f%32 !=0)=true:=by simpa using u6
  clear u6;go_enter func123,ntmps123
  go_wp2_with fail
  go_ret2
  exact HE.o _ _ rfl rfl
 case inr.inr.inr.inr.inr.inr=>
  have u6':(f%32 !=0)=false:=by simpa using u6
  have u7':(s%32 !=0)=true:=by simpa using u7
  clear u6 u7;go_enter func123,ntmps123
  go_wp2_with fail
  go_ret2
  exact HE.o _ _ rfl rfl
 all_goals
  go_enter func123,ntmps123
  go_wp2_with fail
  go_ret2
  exact HE.o _ _ rfl rfl
theorem aHd (zs:qi)(k:Nat)(hz:∀ j,0<=zs.getD j 0/\zs.getD j 0<=255)(v1:Int)(E1:Hid (zs.getD k 0=v1))(z0:0<=v1)(z0':v1<=255)(op:Int)(ho1:1<=op)(ho2:op<=25)(hu:us op=3)(HOP:Hid (∀ W:World,(W.alloc (.cells q25 3)).cell? (qR W.heap.size ((v1%25).toNat))=some (qI op))):
 ∃ (d x i:Int) (k':Nat),(-1<=(op:Int)/\(op:Int)<=64/\-1<=d/\d<=10/\-1<=x/\x<=10/\-1<=i/\i<=65536)/\∀ (r:Nat) (a:qO) (n c:Nat) (w:qw) (h:Rdr w r a n c zs k) (hcode:n≠0->∀ b off,a=some (qR b off)->b<w.heap.size),qC 169 #[.pointer (qP r)] w (dQ w r a n c zs op d x i k'):=by
 obtain ⟨v2,E2,z1,z1'⟩:=aR hz (k+1);obtain ⟨v3,E3,z2,z2'⟩:=aR hz (k+1+1);clear hz;obtain ⟨A,hA0,hA1,hAT⟩:=gH (v2/4%8).toNat (by omega);have HAT:=zh hAT;clear hAT;refine ⟨v2%4,A,0,k+1+1,by omega,fun r a n c w h hcode=>?_⟩;have hrw:=h.blk.lt;have T0:Turn (fun j=>j=r) w (w.alloc (.cells (qW 0 0 0 0) 131)):=aD w _;have kr0:=Blk.new w (qW 0 0 0 0) 131;have h0:=aH h ((Below.refl w.heap.size w).alloc aL (.cells (qW 0 0 0 0) 131));clear h;go_enter func169,ntmps169
 go_wp2_with fail
 refine (aK r a n c zs k v1 _ h0 E1).mono ?_;rintro e w1 ⟨rfl,h1,t1⟩;have kr1:=aA t1 kr0 (by omega);have T1:=T0.trans t1;clear t1 kr0 T0 h0;have hop:=HOP.out w1;have kop:=Blk.new (w1.alloc (.cells q25 3)) (qW op 0 0 0) 131;have h1':=aH (aH h1 ((Below.refl w1.heap.size w1).alloc aL (.cells q25 3))) (brf.alloc aL (.cells (qW op 0 0 0) 131));have T1':=(T1.trans (aD w1 (.cells q25 3))).trans (aD _ (.cells (qW op 0 0 0) 131));have kr1':=(kr1.alloc (.cells q25 3)).alloc (.cells (qW op 0 0 0) 131);have hlt1:=kr1.lt;clear kr1 T1 h1;try unfold qY at *
 simp only [xF] at kop;go_wp2_with fail
 refine (aK r a n c zs (k+1) v2 _ h1' E2).mono ?_;rintro e w2 ⟨rfl,h2,t2⟩;have kr2:=aA t2 kr1' (by omega);have ko2:=aA t2 kop (by omega);have T2:=T1'.trans t2;have hz2:=t2.size;try unfold qY at *
 simp only [xF] at hz2;clear t2 kr1' T1' h1' kop hop;obtain ⟨q1,q2,q3,q4,q5⟩:=ko2.four';obtain ⟨p1,p2,p3,p4,p5⟩:=kr2.four';go_wp2_with fail
 refine (aS op _).mono ?_;rintro e wx ⟨rfl,rfl⟩;have H:Is w w2 r a n c zs (k+1+1) (w1.heap.size+1) op 0 0 0:=⟨kr2,ko2,h2,T2,by omega,hrw,hcode⟩;have HH:=zh H;clear H kr2 ko2 h2 T2 hcode;have hbig:w.heap.size<w1.heap.size+1:=by omega
 have hlt2:w1.heap.size+1<w2.heap.size:=by omega
 have hlt3:w.heap.size<w2.heap.size:=by omega
 rw [hu];clear hu;have hA:=HAT.o (w2.setCell (qR (w1.heap.size+1) 1) (qI (v2%4)));try unfold qY at *
 simp only [aG] at hA;go_wp2
 (with_reducible refine ((HH.o.set1 (v2%4)).set2 A).doneA _ results169 _ _ ?_ ?_);rfl;omega
theorem aHe (zs:qi)(k:Nat)(hz:∀ j,0<=zs.getD j 0/\zs.getD j 0<=255)(v1:Int)(E1:Hid (zs.getD k 0=v1))(z0:0<=v1)(z0':v1<=255)(op:Int)(ho1:1<=op)(ho2:op<=25)(hu:us op=0)(HOP:Hid (∀ W:World,(W.alloc (.cells q25 3)).cell? (qR W.heap.size ((v1%25).toNat))=some (qI op))):
 ∃ (d x i:Int) (k':Nat),(-1<=(op:Int)/\(op:Int)<=64/\-1<=d/\d<=10/\-1<=x/\x<=10/\-1<=i/\i<=65536)/\∀ (r:Nat) (a:qO) (n c:Nat) (w:qw) (h:Rdr w r a n c zs k) (hcode:n≠0->∀ b off,a=some (qR b off)->b<w.heap.size),qC 169 #[.pointer (qP r)] w (dQ w r a n c zs op d x i k'):=by
 obtain ⟨v2,E2,z1,z1'⟩:=aR hz (k+1);obtain ⟨v3,E3,z2,z2'⟩:=aR hz (k+1+1);clear hz;refine ⟨0,0,0,k+1+1,by omega,fun r a n c w h hcode=>?_⟩;have hrw:=h.blk.lt;have T0:Turn (fun j=>j=r) w (w.alloc (.cells (qW 0 0 0 0) 131)):=aD w _;have kr0:=Blk.new w (qW 0 0 0 0) 131;have h0:=aH h ((Below.refl w.heap.size w).alloc aL (.cells (qW 0 0 0 0) 131));clear h;go_enter func169,ntmps169
 go_wp2_with fail
 refine (aK r a n c zs k v1 _ h0 E1).mono ?_;rintro e w1 ⟨rfl,h1,t1⟩;have kr1:=aA t1 kr0 (by omega);have T1:=T0.trans t1;clear t1 kr0 T0 h0;have hop:=HOP.out w1;have kop:=Blk.new (w1.alloc (.cells q25 3)) (qW op 0 0 0) 131;have h1':=aH (aH h1 ((Below.refl w1.heap.size w1).alloc aL (.cells q25 3))) (brf.alloc aL (.cells (qW op 0 0 0) 131));have T1':=(T1.trans (aD w1 (.cells q25 3))).trans (aD _ (.cells (qW op 0 0 0) 131));have kr1':=(kr1.alloc (.cells q25 3)).alloc (.cells (qW op 0 0 0) 131);have hlt1:=kr1.lt;clear kr1 T1 h1;try unfold qY at *
 simp only [xF] at kop;go_wp2_with fail
 refine (aK r a n c zs (k+1) v2 _ h1' E2).mono ?_;rintro e w2 ⟨rfl,h2,t2⟩;have kr2:=aA t2 kr1' (by omega);have ko2:=aA t2 kop (by omega);have T2:=T1'.trans t2;have hz2:=t2.size;try unfold qY at *
 simp only [xF] at hz2;clear t2 kr1' T1' h1' kop hop;obtain ⟨q1,q2,q3,q4,q5⟩:=ko2.four';obtain ⟨p1,p2,p3,p4,p5⟩:=kr2.four';go_wp2_with fail
 refine (aS op _).mono ?_;rintro e wx ⟨rfl,rfl⟩;have H:Is w w2 r a n c zs (k+1+1) (w1.heap.size+1) op 0 0 0:=⟨kr2,ko2,h2,T2,by omega,hrw,hcode⟩;have HH:=zh H;clear H kr2 ko2 h2 T2 hcode;have hbig:w.heap.size<w1.heap.size+1:=by omega
 have hlt2:w1.heap.size+1<w2.heap.size:=by omega
 have hlt3:w.heap.size<w2.heap.size:=by omega
 rw [hu];clear hu;go_wp2
 (with_reducible refine HH.o.done _ results169 _ ?_ ?_);rfl;omega
