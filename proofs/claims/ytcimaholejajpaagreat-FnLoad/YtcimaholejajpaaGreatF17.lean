import Derived.Test.YtcimaholejajpaaGreatF06
set_option linter.all false
set_option maxHeartbeats 2000000
namespace Go.Proofs.YtcimaholejajpaaGreat
open Go.RowKit
open Go.Proofs.Tryz
set_option maxRecDepth 100000
theorem aHm (zs:qi)(k:Nat)(hz:∀ j,0<=zs.getD j 0/\zs.getD j 0<=255)(v1:Int)(E1:Hid (zs.getD k 0=v1))(z0:0<=v1)(z0':v1<=255)(HOP:Hid (∀ W:World,(W.alloc (.cells q25 3)).cell? (qR W.heap.size ((v1%25).toNat))=some (qI 18))):
 ∃ (d x i:Int) (k':Nat),(-1<=(18:Int)/\(18:Int)<=64/\-1<=d/\d<=10/\-1<=x/\x<=10/\-1<=i/\i<=65536)/\∀ (r:Nat) (a:qO) (n c:Nat) (w:qw) (h:Rdr w r a n c zs k) (hcode:n≠0->∀ b off,a=some (qR b off)->b<w.heap.size),qC 169 #[.pointer (qP r)] w (dQ w r a n c zs 18 d x i k'):=by
 obtain ⟨v2,E2,z1,z1'⟩:=aR hz (k+1);obtain ⟨v3,E3,z2,z2'⟩:=aR hz (k+1+1);clear hz;obtain ⟨A,hA0,hA1,hAT⟩:=gH (v2/4%8).toNat (by omega);have HAT:=zh hAT;clear hAT;by_cases hA6:A=6
 .have HCD:=zh hA6;clear hA6;refine ⟨v2%4,A,65532-v3%16/4*4,k+1+1+1,by omega,fun r a n c w h hcode=>?_⟩;have hrw:=h.blk.lt;have T0:Turn (fun j=>j=r) w (w.alloc (.cells (qW 0 0 0 0) 131)):=aD w _;have kr0:=Blk.new w (qW 0 0 0 0) 131;have h0:=aH h ((Below.refl w.heap.size w).alloc aL (.cells (qW 0 0 0 0) 131));clear h;go_enter func169,ntmps169
  go_wp2_with fail
  refine (aK r a n c zs k v1 _ h0 E1).mono ?_;rintro e w1 ⟨rfl,h1,t1⟩;have kr1:=aA t1 kr0 (by omega);have T1:=T0.trans t1;clear t1 kr0 T0 h0;have hop:=HOP.out w1;have kop:=Blk.new (w1.alloc (.cells q25 3)) (qW 18 0 0 0) 131;have h1':=aH (aH h1 ((Below.refl w1.heap.size w1).alloc aL (.cells q25 3))) (brf.alloc aL (.cells (qW 18 0 0 0) 131));have T1':=(T1.trans (aD w1 (.cells q25 3))).trans (aD _ (.cells (qW 18 0 0 0) 131));have kr1':=(kr1.alloc (.cells q25 3)).alloc (.cells (qW 18 0 0 0) 131);have hlt1:=kr1.lt;clear kr1 T1 h1;try unfold qY at *
  simp only [xF] at kop;go_wp2_with fail
  refine (aK r a n c zs (k+1) v2 _ h1' E2).mono ?_;rintro e w2 ⟨rfl,h2,t2⟩;have kr2:=aA t2 kr1' (by omega);have ko2:=aA t2 kop (by omega);have T2:=T1'.trans t2;have hz2:=t2.size;try unfold qY at *
  simp only [xF] at hz2;clear t2 kr1' T1' h1' kop hop;obtain ⟨q1,q2,q3,q4,q5⟩:=ko2.four';obtain ⟨p1,p2,p3,p4,p5⟩:=kr2.four';go_wp2_with fail
  refine (aS 18 _).mono ?_;rintro e wx ⟨rfl,rfl⟩;have H:Is w w2 r a n c zs (k+1+1) (w1.heap.size+1) 18 0 0 0:=⟨kr2,ko2,h2,T2,by omega,hrw,hcode⟩;have HH:=zh H;clear H kr2 ko2 h2 T2 hcode;have hbig:w.heap.size<w1.heap.size+1:=by omega
  have hlt2:w1.heap.size+1<w2.heap.size:=by omega
  have hlt3:w.heap.size<w2.heap.size:=by omega
  rw [show us 18=7 from by decide];have hA:=HAT.o (w2.setCell (qR (w1.heap.size+1) 1) (qI (v2%4)));try unfold qY at *
  simp only [aG] at hA;have N:=(((HH.o.set1 (v2%4)).set2 A).more (.cells #[qI 7,qI 6,qI 0,qI 1,qI 2,qI 7,qI 6,qI 3] 3));go_wp2_with fail
  refine (aK r a n c zs (k+1+1) v3 _ N.rd E3).mono ?_;rintro e w3 ⟨rfl,hr3,t3⟩;have N3:=N.next hr3 t3;have hz3:=t3.size;try simp only [xF,aG] at hz3
  clear N hr3 t3 q1 q2 q3 q4 q5 p1 p2 p3 p4 p5 HH hA;obtain ⟨q1,q2,q3,q4,q5⟩:=N3.ins.four';obtain ⟨p1,p2,p3,p4,p5⟩:=N3.res.four';have HN:=zh N3;clear N3;have hA6:=HCD.o;subst hA6;go_wp2
  (with_reducible refine ((HN.o.set3 (v3%16)).set3 (65532-v3%16/4*4)).done _ results169 _ ?_ ?_);rfl;omega
 .have HCD:=zh hA6;clear hA6;refine ⟨v2%4,A,v3%16,k+1+1+1,by omega,fun r a n c w h hcode=>?_⟩;have hrw:=h.blk.lt;have T0:Turn (fun j=>j=r) w (w.alloc (.cells (qW 0 0 0 0) 131)):=aD w _;have kr0:=Blk.new w (qW 0 0 0 0) 131;have h0:=aH h ((Below.refl w.heap.size w).alloc aL (.cells (qW 0 0 0 0) 131));clear h;go_enter func169,ntmps169
  go_wp2_with fail
  refine (aK r a n c zs k v1 _ h0 E1).mono ?_;rintro e w1 ⟨rfl,h1,t1⟩;have kr1:=aA t1 kr0 (by omega);have T1:=T0.trans t1;clear t1 kr0 T0 h0;have hop:=HOP.out w1;have kop:=Blk.new (w1.alloc (.cells q25 3)) (qW 18 0 0 0) 131;have h1':=aH (aH h1 ((Below.refl w1.heap.size w1).alloc aL (.cells q25 3))) (brf.alloc aL (.cells (qW 18 0 0 0) 131));have T1':=(T1.trans (aD w1 (.cells q25 3))).trans (aD _ (.cells (qW 18 0 0 0) 131));have kr1':=(kr1.alloc (.cells q25 3)).alloc (.cells (qW 18 0 0 0) 131);have hlt1:=kr1.lt;clear kr1 T1 h1;try unfold qY at *
  simp only [xF] at kop;go_wp2_with fail
  refine (aK r a n c zs (k+1) v2 _ h1' E2).mono ?_;rintro e w2 ⟨rfl,h2,t2⟩;have kr2:=aA t2 kr1' (by omega);have ko2:=aA t2 kop (by omega);have T2:=T1'.trans t2;have hz2:=t2.size;try unfold qY at *
  simp only [xF] at hz2;clear t2 kr1' T1' h1' kop hop;obtain ⟨q1,q2,q3,q4,q5⟩:=ko2.four';obtain ⟨p1,p2,p3,p4,p5⟩:=kr2.four';go_wp2_with fail
  refine (aS 18 _).mono ?_;rintro e wx ⟨rfl,rfl⟩;have H:Is w w2 r a n c zs (k+1+1) (w1.heap.size+1) 18 0 0 0:=⟨kr2,ko2,h2,T2,by omega,hrw,hcode⟩;have HH:=zh H;clear H kr2 ko2 h2 T2 hcode;have hbig:w.heap.size<w1.heap.size+1:=by omega
  have hlt2:w1.heap.size+1<w2.heap.size:=by omega
  have hlt3:w.heap.size<w2.heap.size:=by omega
  rw [show us 18=7 from by decide];have hA:=HAT.o (w2.setCell (qR (w1.heap.size+1) 1) (qI (v2%4)));try unfold qY at *
  simp only [aG] at hA;have N:=(((HH.o.set1 (v2%4)).set2 A).more (.cells #[qI 7,qI 6,qI 0,qI 1,qI 2,qI 7,qI 6,qI 3] 3));go_wp2_with fail
  refine (aK r a n c zs (k+1+1) v3 _ N.rd E3).mono ?_;rintro e w3 ⟨rfl,hr3,t3⟩;have N3:=N.next hr3 t3;have hz3:=t3.size;try simp only [xF,aG] at hz3
  clear N hr3 t3 q1 q2 q3 q4 q5 p1 p2 p3 p4 p5 HH hA;obtain ⟨q1,q2,q3,q4,q5⟩:=N3.ins.four';obtain ⟨p1,p2,p3,p4,p5⟩:=N3.res.four';have HN:=zh N3;clear N3;have hA6:=HCD.o;have hA6:(A==6)=false:=by simpa using hA6
  go_wp2
  (with_reducible refine (HN.o.set3 (v3%16)).done _ results169 _ ?_ ?_);rfl;omega
theorem aHl (zs:qi)(k:Nat)(hz:∀ j,0<=zs.getD j 0/\zs.getD j 0<=255)(v1:Int)(E1:Hid (zs.getD k 0=v1))(z0:0<=v1)(z0':v1<=255)(HOP:Hid (∀ W:World,(W.alloc (.cells q25 3)).cell? (qR W.heap.size ((v1%25).toNat))=some (qI 19))):
 ∃ (d x i:Int) (k':Nat),(-1<=(19:Int)/\(19:Int)<=64/\-1<=d/\d<=10/\-1<=x/\x<=10/\-1<=i/\i<=65536)/\∀ (r:Nat) (a:qO) (n c:Nat) (w:qw) (h:Rdr w r a n c zs k) (hcode:n≠0->∀ b off,a=some (qR b off)->b<w.heap.size),qC 169 #[.pointer (qP r)] w (dQ w r a n c zs 19 d x i k'):=by
 obtain ⟨v2,E2,z1,z1'⟩:=aR hz (k+1);obtain ⟨v3,E3,z2,z2'⟩:=aR hz (k+1+1);clear hz;obtain ⟨A,hA0,hA1,hAT⟩:=gH (v2/4%8).toNat (by omega);have HAT:=zh hAT;clear hAT;by_cases hA6:A=6
 .have HCD:=zh hA6;clear hA6;refine ⟨v2%4,A,65532-v3%16/4*4,k+1+1+1,by omega,fun r a n c w h hcode=>?_⟩;have hrw:=h.blk.lt;have T0:Turn (fun j=>j=r) w (w.alloc (.cells (qW 0 0 0 0) 131)):=aD w _;have kr0:=Blk.new w (qW 0 0 0 0) 131;have h0:=aH h ((Below.refl w.heap.size w).alloc aL (.cells (qW 0 0 0 0) 131));clear h;go_enter func169,ntmps169
  go_wp2_with fail
  refine (aK r a n c zs k v1 _ h0 E1).mono ?_;rintro e w1 ⟨rfl,h1,t1⟩;have kr1:=aA t1 kr0 (by omega);have T1:=T0.trans t1;clear t1 kr0 T0 h0;have hop:=HOP.out w1;have kop:=Blk.new (w1.alloc (.cells q25 3)) (qW 19 0 0 0) 131;have h1':=aH (aH h1 ((Below.refl w1.heap.size w1).alloc aL (.cells q25 3))) (brf.alloc aL (.cells (qW 19 0 0 0) 131));have T1':=(T1.trans (aD w1 (.cells q25 3))).trans (aD _ (.cells (qW 19 0 0 0) 131));have kr1':=(kr1.alloc (.cells q25 3)).alloc (.cells (qW 19 0 0 0) 131);have hlt1:=kr1.lt;clear kr1 T1 h1;try unfold qY at *
  simp only [xF] at kop;go_wp2_with fail
  refine (aK r a n c zs (k+1) v2 _ h1' E2).mono ?_;rintro e w2 ⟨rfl,h2,t2⟩;have kr2:=aA t2 kr1' (by omega);have ko2:=aA t2 kop (by omega);have T2:=T1'.trans t2;have hz2:=t2.size;try unfold qY at *
  simp only [xF] at hz2;clear t2 kr1' T1' h1' kop hop;obtain ⟨q1,q2,q3,q4,q5⟩:=ko2.four';obtain ⟨p1,p2,p3,p4,p5⟩:=kr2.four';go_wp2_with fail
  refine (aS 19 _).mono ?_;rintro e wx ⟨rfl,rfl⟩;have H:Is w w2 r a n c zs (k+1+1) (w1.heap.size+1) 19 0 0 0:=⟨kr2,ko2,h2,T2,by omega,hrw,hcode⟩;have HH:=zh H;clear H kr2 ko2 h2 T2 hcode;have hbig:w.heap.size<w1.heap.size+1:=by omega
  have hlt2:w1.heap.size+1<w2.heap.size:=by omega
  have hlt3:w.heap.size<w2.heap.size:=by omega
  rw [show us 19=7 from by decide];have hA:=HAT.o (w2.setCell (qR (w1.heap.size+1) 1) (qI (v2%4)));try unfold qY at *
  simp only [aG] at hA;have N:=(((HH.o.set1 (v2%4)).set2 A).more (.cells #[qI 7,qI 6,qI 0,qI 1,qI 2,qI 7,qI 6,qI 3] 3));go_wp2_with fail
  refine (aK r a n c zs (k+1+1) v3 _ N.rd E3).mono ?_;rintro e w3 ⟨rfl,hr3,t3⟩;have N3:=N.next hr3 t3;have hz3:=t3.size;try simp only [xF,aG] at hz3
  clear N hr3 t3 q1 q2 q3 q4 q5 p1 p2 p3 p4 p5 HH hA;obtain ⟨q1,q2,q3,q4,q5⟩:=N3.ins.four';obtain ⟨p1,p2,p3,p4,p5⟩:=N3.res.four';have HN:=zh N3;clear N3;have hA6:=HCD.o;subst hA6;have hx:=((((HN.o.set3 (v3%16)).set3 (v3%16/4*4)).set3 (65532-v3%16/4*4)).ins.four').2.2.2.1;go_wp2
  (with_reducible refine (((HN.o.set3 (v3%16)).set3 (v3%16/4*4)).set3 (65532-v3%16/4*4)).done _ results169 _ ?_ ?_);rfl;omega
 .have HCD:=zh hA6;clear hA6;refine ⟨v2%4,A,v3%16/4*4,k+1+1+1,by omega,fun r a n c w h hcode=>?_⟩;have hrw:=h.blk.lt;have T0:Turn (fun j=>j=r) w (w.alloc (.cells (qW 0 0 0 0) 131)):=aD w _;have kr0:=Blk.new w (qW 0 0 0 0) 131;have h0:=aH h ((Below.refl w.heap.size w).alloc aL (.cells (qW 0 0 0 0) 131));clear h;go_enter func169,ntmps169
  go_wp2_with fail
  refine (aK r a n c zs k v1 _ h0 E1).mono ?_;rintro e w1 ⟨rfl,h1,t1⟩;have kr1:=aA t1 kr0 (by omega);have T1:=T0.trans t1;clear t1 kr0 T0 h0;have hop:=HOP.out w1;have kop:=Blk.new (w1.alloc (.cells q25 3)) (qW 19 0 0 0) 131;have h1':=aH (aH h1 ((Below.refl w1.heap.size w1).alloc aL (.cells q25 3))) (brf.alloc aL (.cells (qW 19 0 0 0) 131));have T1':=(T1.trans (aD w1 (.cells q25 3))).trans (aD _ (.cells (qW 19 0 0 0) 131));have kr1':=(kr1.alloc (.cells q25 3)).alloc (.cells (qW 19 0 0 0) 131);have hlt1:=kr1.lt;clear kr1 T1 h1;try unfold qY at *
  simp only [xF] at kop;go_wp2_with fail
  refine (aK r a n c zs (k+1) v2 _ h1' E2).mono ?_;rintro e w2 ⟨rfl,h2,t2⟩;have kr2:=aA t2 kr1' (by omega);have ko2:=aA t2 kop (by omega);have T2:=T1'.trans t2;have hz2:=t2.size;try unfold qY at *
  simp only [xF] at hz2;clear t2 kr1' T1' h1' kop hop;obtain ⟨q1,q2,q3,q4,q5⟩:=ko2.four';obtain ⟨p1,p2,p3,p4,p5⟩:=kr2.four';go_wp2_with fail
  refine (aS 19 _).mono ?_;rintro e wx ⟨rfl,rfl⟩;have H:Is w w2 r a n c zs (k+1+1) (w1.heap.size+1) 19 0 0 0:=⟨kr2,ko2,h2,T2,by omega,hrw,hcode⟩;have HH:=zh H;clear H kr2 ko2 h2 T2 hcode;have hbig:w.heap.size<w1.heap.size+1:=by omega
  have hlt2:w1.heap.size+1<w2.heap.size:=by omega
  have hlt3:w.heap.size<w2.heap.size:=by omega
  rw [show us 19=7 from by decide];have hA:=HAT.o (w2.setCell (qR (w1.heap.size+1) 1) (qI (v2%4)));try unfold qY at *
  simp only [aG] at hA;have N:=(((HH.o.set1 (v2%4)).set2 A).more (.cells #[qI 7,qI 6,qI 0,qI 1,qI 2,qI 7,qI 6,qI 3] 3));go_wp2_with fail
  refine (aK r a n c zs (k+1+1) v3 _ N.rd E3).mono ?_;rintro e w3 ⟨rfl,hr3,t3⟩;have N3:=N.next hr3 t3;have hz3:=t3.size;try simp only [xF,aG] at hz3
  clear N hr3 t3 q1 q2 q3 q4 q5 p1 p2 p3 p4 p5 HH hA;obtain ⟨q1,q2,q3,q4,q5⟩:=N3.ins.four';obtain ⟨p1,p2,p3,p4,p5⟩:=N3.res.four';have HN:=zh N3;clear N3;have hA6:=HCD.o;have hA6:(A==6)=false:=by simpa using hA6
  go_wp2
  (with_reducible refine ((HN.o.set3 (v3%16)).set3 (v3%16/4*4)).done _ results169 _ ?_ ?_);rfl;omega
theorem aHk (zs:qi)(k:Nat)(hz:∀ j,0<=zs.getD j 0/\zs.getD j 0<=255)(v1:Int)(E1:Hid (zs.getD k 0=v1))(z0:0<=v1)(z0':v1<=255)(HOP:Hid (∀ W:World,(W.alloc (.cells q25 3)).cell? (qR W.heap.size ((v1%25).toNat))=some (qI 20))):
 ∃ (d x i:Int) (k':Nat),(-1<=(20:Int)/\(20:Int)<=64/\-1<=d/\d<=10/\-1<=x/\x<=10/\-1<=i/\i<=65536)/\∀ (r:Nat) (a:qO) (n c:Nat) (w:qw) (h:Rdr w r a n c zs k) (hcode:n≠0->∀ b off,a=some (qR b off)->b<w.heap.size),qC 169 #[.pointer (qP r)] w (dQ w r a n c zs 20 d x i k'):=by
 obtain ⟨v2,E2,z1,z1'⟩:=aR hz (k+1);obtain ⟨v3,E3,z2,z2'⟩:=aR hz (k+1+1);clear hz;by_cases hv:224<=v2
 .have HCD:=zh hv;clear hv;refine ⟨0,0,65535-v3%4,k+1+1+1,by omega,fun r a n c w h hcode=>?_⟩;have hrw:=h.blk.lt;have T0:Turn (fun j=>j=r) w (w.alloc (.cells (qW 0 0 0 0) 131)):=aD w _;have kr0:=Blk.new w (qW 0 0 0 0) 131;have h0:=aH h ((Below.refl w.heap.size w).alloc aL (.cells (qW 0 0 0 0) 131));clear h;go_enter func169,ntmps169
  go_wp2_with fail
  refine (aK r a n c zs k v1 _ h0 E1).mono ?_;rintro e w1 ⟨rfl,h1,t1⟩;have kr1:=aA t1 kr0 (by omega);have T1:=T0.trans t1;clear t1 kr0 T0 h0;have hop:=HOP.out w1;have kop:=Blk.new (w1.alloc (.cells q25 3)) (qW 20 0 0 0) 131;have h1':=aH (aH h1 ((Below.refl w1.heap.size w1).alloc aL (.cells q25 3))) (brf.alloc aL (.cells (qW 20 0 0 0) 131));have T1':=(T1.trans (aD w1 (.cells q25 3))).trans (aD _ (.cells (qW 20 0 0 0) 131));have kr1':=(kr1.alloc (.cells q25 3)).alloc (.cells (qW 20 0 0 0) 131);have hlt1:=kr1.lt;clear kr1 T1 h1;try unfold qY at *
  simp only [xF] at kop;go_wp2_with fail
  refine (aK r a n c zs (k+1) v2 _ h1' E2).mono ?_;rintro e w2 ⟨rfl,h2,t2⟩;have kr2:=aA t2 kr1' (by omega);have ko2:=aA t2 kop (by omega);have T2:=T1'.trans t2;have hz2:=t2.size;try unfold qY at *
  simp only [xF] at hz2;clear t2 kr1' T1' h1' kop hop;obtain ⟨q1,q2,q3,q4,q5⟩:=ko2.four';obtain ⟨p1,p2,p3,p4,p5⟩:=kr2.four';go_wp2_with fail
  refine (aS 20 _).mono ?_;rintro e wx ⟨rfl,rfl⟩;have H:Is w w2 r a n c zs (k+1+1) (w1.heap.size+1) 20 0 0 0:=⟨kr2,ko2,h2,T2,by omega,hrw,hcode⟩;have HH:=zh H;clear H kr2 ko2 h2 T2 hcode;have hbig:w.heap.size<w1.heap.size+1:=by omega
  have hlt2:w1.heap.size+1<w2.heap.size:=by omega
  have hlt3:w.heap.size<w2.heap.size:=by omega
  rw [show us 20=4 from by decide];have N:=HH.o;go_wp2_with fail
  refine (aK r a n c zs (k+1+1) v3 _ N.rd E3).mono ?_;rintro e w3 ⟨rfl,hr3,t3⟩;have N3:=N.next hr3 t3;have hz3:=t3.size;try simp only [xF,aG] at hz3
  clear N hr3 t3 q1 q2 q3 q4 q5 p1 p2 p3 p4 p5 HH;obtain ⟨q1,q2,q3,q4,q5⟩:=N3.ins.four';obtain ⟨p1,p2,p3,p4,p5⟩:=N3.res.four';have HN:=zh N3;clear N3;have hv:=HCD.o;have hx:=((((HN.o.set3 (v3%16)).set3 (v3%4)).set3 (65535-v3%4)).ins.four').2.2.2.1;go_wp2
  (with_reducible refine (((HN.o.set3 (v3%16)).set3 (v3%4)).set3 (65535-v3%4)).done _ results169 _ ?_ ?_);rfl;omega
 .have HCD:=zh hv;clear hv;refine ⟨0,0,v3%4,k+1+1+1,by omega,fun r a n c w h hcode=>?_⟩;have hrw:=h.blk.lt;have T0:Turn (fun j=>j=r) w (w.alloc (.cells (qW 0 0 0 0) 131)):=aD w _;have kr0:=Blk.new w (qW 0 0 0 0) 131;have h0:=aH h ((Below.refl w.heap.size w).alloc aL (.cells (qW 0 0 0 0) 131));clear h;go_enter func169,ntmps169
  go_wp2_with fail
  refine (aK r a n c zs k v1 _ h0 E1).mono ?_;rintro e w1 ⟨rfl,h1,t1⟩;have kr1:=aA t1 kr0 (by omega);have T1:=T0.trans t1;clear t1 kr0 T0 h0;have hop:=HOP.out w1;have kop:=Blk.new (w1.alloc (.cells q25 3)) (qW 20 0 0 0) 131;have h1':=aH (aH h1 ((Below.refl w1.heap.size w1).alloc aL (.cells q25 3))) (brf.alloc aL (.cells (qW 20 0 0 0) 131));have T1':=(T1.trans (aD w1 (.cells q25 3))).trans (aD _ (.cells (qW 20 0 0 0) 131));have kr1':=(kr1.alloc (.cells q25 3)).alloc (.cells (qW 20 0 0 0) 131);have hlt1:=kr1.lt;clear kr1 T1 h1;try unfold qY at *
  simp only [xF] at kop;go_wp2_with fail
  refine (aK r a n c zs (k+1) v2 _ h1' E2).mono ?_;rintro e w2 ⟨rfl,h2,t2⟩;have kr2:=aA t2 kr1' (by omega);have ko2:=aA t2 kop (by omega);have T2:=T1'.trans t2;have hz2:=t2.size;try unfold qY at *
  simp only [xF] at hz2;clear t2 kr1' T1' h1' kop hop;obtain ⟨q1,q2,q3,q4,q5⟩:=ko2.four';obtain ⟨p1,p2,p3,p4,p5⟩:=kr2.four';go_wp2_with fail
  refine (aS 20 _).mono ?_;rintro e wx ⟨rfl,rfl⟩;have H:Is w w2 r a n c zs (k+1+1) (w1.heap.size+1) 20 0 0 0:=⟨kr2,ko2,h2,T2,by omega,hrw,hcode⟩;have HH:=zh H;clear H kr2 ko2 h2 T2 hcode;have hbig:w.heap.size<w1.heap.size+1:=by omega
  have hlt2:w1.heap.size+1<w2.heap.size:=by omega
  have hlt3:w.heap.size<w2.heap.size:=by omega
  rw [show us 20=4 from by decide];have N:=HH.o;go_wp2_with fail
  refine (aK r a n c zs (k+1+1) v3 _ N.rd E3).mono ?_;rintro e w3 ⟨rfl,hr3,t3⟩;have N3:=N.next hr3 t3;have hz3:=t3.size;try simp only [xF,aG] at hz3
  clear N hr3 t3 q1 q2 q3 q4 q5 p1 p2 p3 p4 p5 HH;obtain ⟨q1,q2,q3,q4,q5⟩:=N3.ins.four';obtain ⟨p1,p2,p3,p4,p5⟩:=N3.res.four';have HN:=zh N3;clear N3;have hv:=HCD.o;go_wp2
  (with_reducible refine ((HN.o.set3 (v3%16)).set3 (v3%4)).done _ results169 _ ?_ ?_);rfl;omega
theorem aHj (zs:qi)(k:Nat)(hz:∀ j,0<=zs.getD j 0/\zs.getD j 0<=255)(v1:Int)(E1:Hid (zs.getD k 0=v1))(z0:0<=v1)(z0':v1<=255)(HOP:Hid (∀ W:World,(W.alloc (.cells q25 3)).cell? (qR W.heap.size ((v1%25).toNat))=some (qI 21))):
 ∃ (d x i:Int) (k':Nat),(-1<=(21:Int)/\(21:Int)<=64/\-1<=d/\d<=10/\-1<=x/\x<=10/\-1<=i/\i<=65536)/\∀ (r:Nat) (a:qO) (n c:Nat) (w:qw) (h:Rdr w r a n c zs k) (hcode:n≠0->∀ b off,a=some (qR b off)->b<w.heap.size),qC 169 #[.pointer (qP r)] w (dQ w r a n c zs 21 d x i k'):=by
 obtain ⟨v2,E2,z1,z1'⟩:=aR hz (k+1);obtain ⟨v3,E3,z2,z2'⟩:=aR hz (k+1+1);clear hz;by_cases hv:224<=v2
 .have HCD:=zh hv;clear hv;refine ⟨v2%4,0,65535-v3%4,k+1+1+1,by omega,fun r a n c w h hcode=>?_⟩;have hrw:=h.blk.lt;have T0:Turn (fun j=>j=r) w (w.alloc (.cells (qW 0 0 0 0) 131)):=aD w _;have kr0:=Blk.new w (qW 0 0 0 0) 131;have h0:=aH h ((Below.refl w.heap.size w).alloc aL (.cells (qW 0 0 0 0) 131));clear h;go_enter func169,ntmps169
  go_wp2_with fail
  refine (aK r a n c zs k v1 _ h0 E1).mono ?_;rintro e w1 ⟨rfl,h1,t1⟩;have kr1:=aA t1 kr0 (by omega);have T1:=T0.trans t1;clear t1 kr0 T0 h0;have hop:=HOP.out w1;have kop:=Blk.new (w1.alloc (.cells q25 3)) (qW 21 0 0 0) 131;have h1':=aH (aH h1 ((Below.refl w1.heap.size w1).alloc aL (.cells q25 3))) (brf.alloc aL (.cells (qW 21 0 0 0) 131));have T1':=(T1.trans (aD w1 (.cells q25 3))).trans (aD _ (.cells (qW 21 0 0 0) 131));have kr1':=(kr1.alloc (.cells q25 3)).alloc (.cells (qW 21 0 0 0) 131);have hlt1:=kr1.lt;clear kr1 T1 h1;try unfold qY at *
  simp only [xF] at kop;go_wp2_with fail
  refine (aK r a n c zs (k+1) v2 _ h1' E2).mono ?_;rintro e w2 ⟨rfl,h2,t2⟩;have kr2:=aA t2 kr1' (by omega);have ko2:=aA t2 kop (by omega);have T2:=T1'.trans t2;have hz2:=t2.size;try unfold qY at *
  simp only [xF] at hz2;clear t2 kr1' T1' h1' kop hop;obtain ⟨q1,q2,q3,q4,q5⟩:=ko2.four';obtain ⟨p1,p2,p3,p4,p5⟩:=kr2.four';go_wp2_with fail
  refine (aS 21 _).mono ?_;rintro e wx ⟨rfl,rfl⟩;have H:Is w w2 r a n c zs (k+1+1) (w1.heap.size+1) 21 0 0 0:=⟨kr2,ko2,h2,T2,by omega,hrw,hcode⟩;have HH:=zh H;clear H kr2 ko2 h2 T2 hcode;have hbig:w.heap.size<w1.heap.size+1:=by omega
  have hlt2:w1.heap.size+1<w2.heap.size:=by omega
  have hlt3:w.heap.size<w2.heap.size:=by omega
  rw [show us 21=5 from by decide];have N:=(HH.o.set1 (v2%4));go_wp2_with fail
  refine (aK r a n c zs (k+1+1) v3 _ N.rd E3).mono ?_;rintro e w3 ⟨rfl,hr3,t3⟩;have N3:=N.next hr3 t3;have hz3:=t3.size;try simp only [xF,aG] at hz3
  clear N hr3 t3 q1 q2 q3 q4 q5 p1 p2 p3 p4 p5 HH;obtain ⟨q1,q2,q3,q4,q5⟩:=N3.ins.four';obtain ⟨p1,p2,p3,p4,p5⟩:=N3.res.four';have HN:=zh N3;clear N3;have hv:=HCD.o;have hx:=((((HN.o.set3 (v3%16)).set3 (v3%4)).set3 (65535-v3%4)).ins.four').2.2.2.1;go_wp2
  (with_reducible refine (((HN.o.set3 (v3%16)).set3 (v3%4)).set3 (65535-v3%4)).done _ results169 _ ?_ ?_);rfl;omega
 .have HCD:=zh hv;clear hv;refine ⟨v2%4,0,v3%4,k+1+1+1,by omega,fun r a n c w h hcode=>?_⟩;have hrw:=h.blk.lt;have T0:Turn (fun j=>j=r) w (w.alloc (.cells (qW 0 0 0 0) 131)):=aD w _;have kr0:=Blk.new w (qW 0 0 0 0) 131;have h0:=aH h ((Below.refl w.heap.size w).alloc aL (.cells (qW 0 0 0 0) 131));clear h;go_enter func169,ntmps169
  go_wp2_with fail
  refine (aK r a n c zs k v1 _ h0 E1).mono ?_;rintro e w1 ⟨rfl,h1,t1⟩;have kr1:=aA t1 kr0 (by omega);have T1:=T0.trans t1;clear t1 kr0 T0 h0;have hop:=HOP.out w1;have kop:=Blk.new (w1.alloc (.cells q25 3)) (qW 21 0 0 0) 131;have h1':=aH (aH h1 ((Below.refl w1.heap.size w1).alloc aL (.cells q25 3))) (brf.alloc aL (.cells (qW 21 0 0 0) 131));have T1':=(T1.trans (aD w1 (.cells q25 3))).trans (aD _ (.cells (qW 21 0 0 0) 131));have kr1':=(kr1.alloc (.cells q25 3)).alloc (.cells (qW 21 0 0 0) 131);have hlt1:=kr1.lt;clear kr1 T1 h1;try unfold qY at *
  simp only [xF] at kop;go_wp2_with fail
  refine (aK r a n c zs (k+1) v2 _ h1' E2).mono ?_;rintro e w2 ⟨rfl,h2,t2⟩;have kr2:=aA t2 kr1' (by omega);have ko2:=aA t2 kop (by omega);have T2:=T1'.trans t2;have hz2:=t2.size;try unfold qY at *
  simp only [xF] at hz2;clear t2 kr1' T1' h1' kop hop;obtain ⟨q1,q2,q3,q4,q5⟩:=ko2.four';obtain ⟨p1,p2,p3,p4,p5⟩:=kr2.four';go_wp2_with fail
  refine (aS 21 _).mono ?_;rintro e wx ⟨rfl,rfl⟩;have H:Is w w2 r a n c zs (k+1+1) (w1.heap.size+1) 21 0 0 0:=⟨kr2,ko2,h2,T2,by omega,hrw,hcode⟩;have HH:=zh H;clear H kr2 ko2 h2 T2 hcode;have hbig:w.heap.size<w1.heap.size+1:=by omega
  have hlt2:w1.heap.size+1<w2.heap.size:=by omega
  have hlt3:w.heap.size<w2.heap.size:=by omega
  rw [show us 21=5 from by decide];have N:=(HH.o.set1 (v2%4));go_wp2_with fail
  refine (aK r a n c zs (k+1+1) v3 _ N.rd E3).mono ?_;rintro e w3 ⟨rfl,hr3,t3⟩;have N3:=N.next hr3 t3;have hz3:=t3.size;try simp only [xF,aG] at hz3
  clear N hr3 t3 q1 q2 q3 q4 q5 p1 p2 p3 p4 p5 HH;obtain ⟨q1,q2,q3,q4,q5⟩:=N3.ins.four';obtain ⟨p1,p2,p3,p4,p5⟩:=N3.res.four';have HN:=zh N3;clear N3;have hv:=HCD.o;go_wp2
  (with_reducible refine ((HN.o.set3 (v3%16)).set3 (v3%4)).done _ results169 _ ?_ ?_);rfl;omega
theorem aHi (zs:qi)(k:Nat)(hz:∀ j,0<=zs.getD j 0/\zs.getD j 0<=255)(v1:Int)(E1:Hid (zs.getD k 0=v1))(z0:0<=v1)(z0':v1<=255)(HOP:Hid (∀ W:World,(W.alloc (.cells q25 3)).cell? (qR W.heap.size ((v1%25).toNat))=some (qI 22))):
 ∃ (d x i:Int) (k':Nat),(-1<=(22:Int)/\(22:Int)<=64/\-1<=d/\d<=10/\-1<=x/\x<=10/\-1<=i/\i<=65536)/\∀ (r:Nat) (a:qO) (n c:Nat) (w:qw) (h:Rdr w r a n c zs k) (hcode:n≠0->∀ b off,a=some (qR b off)->b<w.heap.size),qC 169 #[.pointer (qP r)] w (dQ w r a n c zs 22 d x i k'):=by
 obtain ⟨v2,E2,z1,z1'⟩:=aR hz (k+1);obtain ⟨v3,E3,z2,z2'⟩:=aR hz (k+1+1);clear hz;by_cases hv:224<=v2
 .have HCD:=zh hv;clear hv;refine ⟨v2%4,0,65535-v3%4,k+1+1+1,by omega,fun r a n c w h hcode=>?_⟩;have hrw:=h.blk.lt;have T0:Turn (fun j=>j=r) w (w.alloc (.cells (qW 0 0 0 0) 131)):=aD w _;have kr0:=Blk.new w (qW 0 0 0 0) 131;have h0:=aH h ((Below.refl w.heap.size w).alloc aL (.cells (qW 0 0 0 0) 131));clear h;go_enter func169,ntmps169
  go_wp2_with fail
  refine (aK r a n c zs k v1 _ h0 E1).mono ?_;rintro e w1 ⟨rfl,h1,t1⟩;have kr1:=aA t1 kr0 (by omega);have T1:=T0.trans t1;clear t1 kr0 T0 h0;have hop:=HOP.out w1;have kop:=Blk.new (w1.alloc (.cells q25 3)) (qW 22 0 0 0) 131;have h1':=aH (aH h1 ((Below.refl w1.heap.size w1).alloc aL (.cells q25 3))) (brf.alloc aL (.cells (qW 22 0 0 0) 131));have T1':=(T1.trans (aD w1 (.cells q25 3))).trans (aD _ (.cells (qW 22 0 0 0) 131));have kr1':=(kr1.alloc (.cells q25 3)).alloc (.cells (qW 22 0 0 0) 131);have hlt1:=kr1.lt;clear kr1 T1 h1;try unfold qY at *
  simp only [xF] at kop;go_wp2_with fail
  refine (aK r a n c zs (k+1) v2 _ h1' E2).mono ?_;rintro e w2 ⟨rfl,h2,t2⟩;have kr2:=aA t2 kr1' (by omega);have ko2:=aA t2 kop (by omega);have T2:=T1'.trans t2;have hz2:=t2.size;try unfold qY at *
  simp only [xF] at hz2;clear t2 kr1' T1' h1' kop hop;obtain ⟨q1,q2,q3,q4,q5⟩:=ko2.four';obtain ⟨p1,p2,p3,p4,p5⟩:=kr2.four';go_wp2_with fail
  refine (aS 22 _).mono ?_;rintro e wx ⟨rfl,rfl⟩;have H:Is w w2 r a n c zs (k+1+1) (w1.heap.size+1) 22 0 0 0:=⟨kr2,ko2,h2,T2,by omega,hrw,hcode⟩;have HH:=zh H;clear H kr2 ko2 h2 T2 hcode;have hbig:w.heap.size<w1.heap.size+1:=by omega
  have hlt2:w1.heap.size+1<w2.heap.size:=by omega
  have hlt3:w.heap.size<w2.heap.size:=by omega
  rw [show us 22=5 from by decide];have N:=(HH.o.set1 (v2%4));go_wp2_with fail
  refine (aK r a n c zs (k+1+1) v3 _ N.rd E3).mono ?_;rintro e w3 ⟨rfl,hr3,t3⟩;have N3:=N.next hr3 t3;have hz3:=t3.size;try simp only [xF,aG] at hz3
  clear N hr3 t3 q1 q2 q3 q4 q5 p1 p2 p3 p4 p5 HH;obtain ⟨q1,q2,q3,q4,q5⟩:=N3.ins.four';obtain ⟨p1,p2,p3,p4,p5⟩:=N3.res.four';have HN:=zh N3;clear N3;have hv:=HCD.o;have hx:=((((HN.o.set3 (v3%16)).set3 (v3%4)).set3 (65535-v3%4)).ins.four').2.2.2.1;go_wp2
  (with_reducible refine (((HN.o.set3 (v3%16)).set3 (v3%4)).set3 (65535-v3%4)).done _ results169 _ ?_ ?_);rfl;omega
 .have HCD:=zh hv;clear hv;refine ⟨v2%4,0,v3%4,k+1+1+1,by omega,fun r a n c w h hcode=>?_⟩;have hrw:=h.blk.lt;have T0:Turn (fun j=>j=r) w (w.alloc (.cells (qW 0 0 0 0) 131)):=aD w _;have kr0:=Blk.new w (qW 0 0 0 0) 131;have h0:=aH h ((Below.refl w.heap.size w).alloc aL (.cells (qW 0 0 0 0) 131));clear h;go_enter func169,ntmps169
  go_wp2_with fail
  refine (aK r a n c zs k v1 _ h0 E1).mono ?_;rintro e w1 ⟨rfl,h1,t1⟩;have kr1:=aA t1 kr0 (by omega);have T1:=T0.trans t1;clear t1 kr0 T0 h0;have hop:=HOP.out w1;have kop:=Blk.new (w1.alloc (.cells q25 3)) (qW 22 0 0 0) 131;have h1':=aH (aH h1 ((Below.refl w1.heap.size w1).alloc aL (.cells q25 3))) (brf.alloc aL (.cells (qW 22 0 0 0) 131));have T1':=(T1.trans (aD w1 (.cells q25 3))).trans (aD _ (.cells (qW 22 0 0 0) 131));have kr1':=(kr1.alloc (.cells q25 3)).alloc (.cells (qW 22 0 0 0) 131);have hlt1:=kr1.lt;clear kr1 T1 h1;try unfold qY at *
  simp only [xF] at kop;go_wp2_with fail
  refine (aK r a n c zs (k+1) v2 _ h1' E2).mono ?_;rintro e w2 ⟨rfl,h2,t2⟩;have kr2:=aA t2 kr1' (by omega);have ko2:=aA t2 kop (by omega);have T2:=T1'.trans t2;have hz2:=t2.size;try unfold qY at *
  simp only [xF] at hz2;clear t2 kr1' T1' h1' kop hop;obtain ⟨q1,q2,q3,q4,q5⟩:=ko2.four';obtain ⟨p1,p2,p3,p4,p5⟩:=kr2.four';go_wp2_with fail
  refine (aS 22 _).mono ?_;rintro e wx ⟨rfl,rfl⟩;have H:Is w w2 r a n c zs (k+1+1) (w1.heap.size+1) 22 0 0 0:=⟨kr2,ko2,h2,T2,by omega,hrw,hcode⟩;have HH:=zh H;clear H kr2 ko2 h2 T2 hcode;have hbig:w.heap.size<w1.heap.size+1:=by omega
  have hlt2:w1.heap.size+1<w2.heap.size:=by omega
  have hlt3:w.heap.size<w2.heap.size:=by omega
  rw [show us 22=5 from by decide];have N:=(HH.o.set1 (v2%4));go_wp2_with fail
  refine (aK r a n c zs (k+1+1) v3 _ N.rd E3).mono ?_;rintro e w3 ⟨rfl,hr3,t3⟩;have N3:=N.next hr3 t3;have hz3:=t3.size;try simp only [xF,aG] at hz3
  clear N hr3 t3 q1 q2 q3 q4 q5 p1 p2 p3 p4 p5 HH;obtain ⟨q1,q2,q3,q4,q5⟩:=N3.ins.four';obtain ⟨p1,p2,p3,p4,p5⟩:=N3.res.four';have HN:=zh N3;clear N3;have hv:=HCD.o;go_wp2
  (with_reducible refine ((HN.o.set3 (v3%16)).set3 (v3%4)).done _ results169 _ ?_ ?_);rfl;omega
theorem aHh (zs:qi)(k:Nat)(hz:∀ j,0<=zs.getD j 0/\zs.getD j 0<=255)(v1:Int)(E1:Hid (zs.getD k 0=v1))(z0:0<=v1)(z0':v1<=255)(HOP:Hid (∀ W:World,(W.alloc (.cells q25 3)).cell? (qR W.heap.size ((v1%25).toNat))=some (qI 23))):
 ∃ (d x i:Int) (k':Nat),(-1<=(23:Int)/\(23:Int)<=64/\-1<=d/\d<=10/\-1<=x/\x<=10/\-1<=i/\i<=65536)/\∀ (r:Nat) (a:qO) (n c:Nat) (w:qw) (h:Rdr w r a n c zs k) (hcode:n≠0->∀ b off,a=some (qR b off)->b<w.heap.size),qC 169 #[.pointer (qP r)] w (dQ w r a n c zs 23 d x i k'):=by
 obtain ⟨v2,E2,z1,z1'⟩:=aR hz (k+1);obtain ⟨v3,E3,z2,z2'⟩:=aR hz (k+1+1);clear hz;by_cases hv:224<=v2
 .have HCD:=zh hv;clear hv;refine ⟨0,0,65535-v3%4,k+1+1+1,by omega,fun r a n c w h hcode=>?_⟩;have hrw:=h.blk.lt;have T0:Turn (fun j=>j=r) w (w.alloc (.cells (qW 0 0 0 0) 131)):=aD w _;have kr0:=Blk.new w (qW 0 0 0 0) 131;have h0:=aH h ((Below.refl w.heap.size w).alloc aL (.cells (qW 0 0 0 0) 131));clear h;go_enter func169,ntmps169
  go_wp2_with fail
  refine (aK r a n c zs k v1 _ h0 E1).mono ?_;rintro e w1 ⟨rfl,h1,t1⟩;have kr1:=aA t1 kr0 (by omega);have T1:=T0.trans t1;clear t1 kr0 T0 h0;have hop:=HOP.out w1;have kop:=Blk.new (w1.alloc (.cells q25 3)) (qW 23 0 0 0) 131;have h1':=aH (aH h1 ((Below.refl w1.heap.size w1).alloc aL (.cells q25 3))) (brf.alloc aL (.cells (qW 23 0 0 0) 131));have T1':=(T1.trans (aD w1 (.cells q25 3))).trans (aD _ (.cells (qW 23 0 0 0) 131));have kr1':=(kr1.alloc (.cells q25 3)).alloc (.cells (qW 23 0 0 0) 131);have hlt1:=kr1.lt;clear kr1 T1 h1;try unfold qY at *
  simp only [xF] at kop;go_wp2_with fail
  refine (aK r a n c zs (k+1) v2 _ h1' E2).mono ?_;rintro e w2 ⟨rfl,h2,t2⟩;have kr2:=aA t2 kr1' (by omega);have ko2:=aA t2 kop (by omega);have T2:=T1'.trans t2;have hz2:=t2.size;try unfold qY at *
  simp only [xF] at hz2;clear t2 kr1' T1' h1' kop hop;obtain ⟨q1,q2,q3,q4,q5⟩:=ko2.four';obtain ⟨p1,p2,p3,p4,p5⟩:=kr2.four';go_wp2_with fail
  refine (aS 23 _).mono ?_;rintro e wx ⟨rfl,rfl⟩;have H:Is w w2 r a n c zs (k+1+1) (w1.heap.size+1) 23 0 0 0:=⟨kr2,ko2,h2,T2,by omega,hrw,hcode⟩;have HH:=zh H;clear H kr2 ko2 h2 T2 hcode;have hbig:w.heap.size<w1.heap.size+1:=by omega
  have hlt2:w1.heap.size+1<w2.heap.size:=by omega
  have hlt3:w.heap.size<w2.heap.size:=by omega
  rw [show us 23=4 from by decide];have N:=HH.o;go_wp2_with fail
  refine (aK r a n c zs (k+1+1) v3 _ N.rd E3).mono ?_;rintro e w3 ⟨rfl,hr3,t3⟩;have N3:=N.next hr3 t3;have hz3:=t3.size;try simp only [xF,aG] at hz3
  clear N hr3 t3 q1 q2 q3 q4 q5 p1 p2 p3 p4 p5 HH;obtain ⟨q1,q2,q3,q4,q5⟩:=N3.ins.four';obtain ⟨p1,p2,p3,p4,p5⟩:=N3.res.four';have HN:=zh N3;clear N3;have hv:=HCD.o;have hx:=((((HN.o.set3 (v3%16)).set3 (v3%4)).set3 (65535-v3%4)).ins.four').2.2.2.1;go_wp2
  (with_reducible refine (((HN.o.set3 (v3%16)).set3 (v3%4)).set3 (65535-v3%4)).done _ results169 _ ?_ ?_);rfl;omega
 .have HCD:=zh hv;clear hv;refine ⟨0,0,v3%4,k+1+1+1,by omega,fun r a n c w h hcode=>?_⟩;have hrw:=h.blk.lt;have T0:Turn (fun j=>j=r) w (w.alloc (.cells (qW 0 0 0 0) 131)):=aD w _;have kr0:=Blk.new w (qW 0 0 0 0) 131;have h0:=aH h ((Below.refl w.heap.size w).alloc aL (.cells (qW 0 0 0 0) 131));clear h;go_enter func169,ntmps169
  go_wp2_with fail
  refine (aK r a n c zs k v1 _ h0 E1).mono ?_;rintro e w1 ⟨rfl,h1,t1⟩;have kr1:=aA t1 kr0 (by omega);have T1:=T0.trans t1;clear t1 kr0 T0 h0;have hop:=HOP.out w1;have kop:=Blk.new (w1.alloc (.cells q25 3)) (qW 23 0 0 0) 131;have h1':=aH (aH h1 ((Below.refl w1.heap.size w1).alloc aL (.cells q25 3))) (brf.alloc aL (.cells (qW 23 0 0 0) 131));have T1':=(T1.trans (aD w1 (.cells q25 3))).trans (aD _ (.cells (qW 23 0 0 0) 131));have kr1':=(kr1.alloc (.cells q25 3)).alloc (.cells (qW 23 0 0 0) 131);have hlt1:=kr1.lt;clear kr1 T1 h1;try unfold qY at *
  simp only [xF] at kop;go_wp2_with fail
  refine (aK r a n c zs (k+1) v2 _ h1' E2).mono ?_;rintro e w2 ⟨rfl,h2,t2⟩;have kr2:=aA t2 kr1' (by omega);have ko2:=aA t2 kop (by omega);have T2:=T1'.trans t2;have hz2:=t2.size;try unfold qY at *
  simp only [xF] at hz2;clear t2 kr1' T1' h1' kop hop;obtain ⟨q1,q2,q3,q4,q5⟩:=ko2.four';obtain ⟨p1,p2,p3,p4,p5⟩:=kr2.four';go_wp2_with fail
  refine (aS 23 _).mono ?_;rintro e wx ⟨rfl,rfl⟩;have H:Is w w2 r a n c zs (k+1+1) (w1.heap.size+1) 23 0 0 0:=⟨kr2,ko2,h2,T2,by omega,hrw,hcode⟩;have HH:=zh H;clear H kr2 ko2 h2 T2 hcode;have hbig:w.heap.size<w1.heap.size+1:=by omega
  have hlt2:w1.heap.size+1<w2.heap.size:=by omega
  have hlt3:w.heap.size<w2.heap.size:=by omega
  rw [show us 23=4 from by decide];have N:=HH.o;go_wp2_with fail
  refine (aK r a n c zs (k+1+1) v3 _ N.rd E3).mono ?_;rintro e w3 ⟨rfl,hr3,t3⟩;have N3:=N.next hr3 t3;have hz3:=t3.size;try simp only [xF,aG] at hz3
  clear N hr3 t3 q1 q2 q3 q4 q5 p1 p2 p3 p4 p5 HH;obtain ⟨q1,q2,q3,q4,q5⟩:=N3.ins.four';obtain ⟨p1,p2,p3,p4,p5⟩:=N3.res.four';have HN:=zh N3;clear N3;have hv:=HCD.o;go_wp2
  (with_reducible refine ((HN.o.set3 (v3%16)).set3 (v3%4)).done _ results169 _ ?_ ?_);rfl;omega
theorem aHg (zs:qi)(k:Nat)(hz:∀ j,0<=zs.getD j 0/\zs.getD j 0<=255)(v1:Int)(E1:Hid (zs.getD k 0=v1))(z0:0<=v1)(z0':v1<=255)(HOP:Hid (∀ W:World,(W.alloc (.cells q25 3)).cell? (qR W.heap.size ((v1%25).toNat))=some (qI 24))):
 ∃ (d x i:Int) (k':Nat),(-1<=(24:Int)/\(24:Int)<=64/\-1<=d/\d<=10/\-1<=x/\x<=10/\-1<=i/\i<=65536)/\∀ (r:Nat) (a:qO) (n c:Nat) (w:qw) (h:Rdr w r a n c zs k) (hcode:n≠0->∀ b off,a=some (qR b off)->b<w.heap.size),qC 169 #[.pointer (qP r)] w (dQ w r a n c zs 24 d x i k'):=by
 obtain ⟨v2,E2,z1,z1'⟩:=aR hz (k+1);obtain ⟨v3,E3,z2,z2'⟩:=aR hz (k+1+1);clear hz;refine ⟨0,0,v3%16%3,k+1+1+1,by omega,fun r a n c w h hcode=>?_⟩;have hrw:=h.blk.lt;have T0:Turn (fun j=>j=r) w (w.alloc (.cells (qW 0 0 0 0) 131)):=aD w _;have kr0:=Blk.new w (qW 0 0 0 0) 131;have h0:=aH h ((Below.refl w.heap.size w).alloc aL (.cells (qW 0 0 0 0) 131));clear h;go_enter func169,ntmps169
 go_wp2_with fail
 refine (aK r a n c zs k v1 _ h0 E1).mono ?_;rintro e w1 ⟨rfl,h1,t1⟩;have kr1:=aA t1 kr0 (by omega);have T1:=T0.trans t1;clear t1 kr0 T0 h0;have hop:=HOP.out w1;have kop:=Blk.new (w1.alloc (.cells q25 3)) (qW 24 0 0 0) 131;have h1':=aH (aH h1 ((Below.refl w1.heap.size w1).alloc aL (.cells q25 3))) (brf.alloc aL (.cells (qW 24 0 0 0) 131));have T1':=(T1.trans (aD w1 (.cells q25 3))).trans (aD _ (.cells (qW 24 0 0 0) 131));have kr1':=(kr1.alloc (.cells q25 3)).alloc (.cells (qW 24 0 0 0) 131);have hlt1:=kr1.lt;clear kr1 T1 h1;try unfold qY at *
 simp only [xF] at kop;go_wp2_with fail
 refine (aK r a n c zs (k+1) v2 _ h1' E2).mono ?_;rintro e w2 ⟨rfl,h2,t2⟩;have kr2:=aA t2 kr1' (by omega);have ko2:=aA t2 kop (by omega);have T2:=T1'.trans t2;have hz2:=t2.size;try unfold qY at *
 simp only [xF] at hz2;clear t2 kr1' T1' h1' kop hop;obtain ⟨q1,q2,q3,q4,q5⟩:=ko2.four';obtain ⟨p1,p2,p3,p4,p5⟩:=kr2.four';go_wp2_with fail
 refine (aS 24 _).mono ?_;rintro e wx ⟨rfl,rfl⟩;have H:Is w w2 r a n c zs (k+1+1) (w1.heap.size+1) 24 0 0 0:=⟨kr2,ko2,h2,T2,by omega,hrw,hcode⟩;have HH:=zh H;clear H kr2 ko2 h2 T2 hcode;have hbig:w.heap.size<w1.heap.size+1:=by omega
 have hlt2:w1.heap.size+1<w2.heap.size:=by omega
 have hlt3:w.heap.size<w2.heap.size:=by omega
 rw [show us 24=4 from by decide];have N:=HH.o;go_wp2_with fail
 refine (aK r a n c zs (k+1+1) v3 _ N.rd E3).mono ?_;rintro e w3 ⟨rfl,hr3,t3⟩;have N3:=N.next hr3 t3;have hz3:=t3.size;try simp only [xF,aG] at hz3
 clear N hr3 t3 q1 q2 q3 q4 q5 p1 p2 p3 p4 p5 HH;obtain ⟨q1,q2,q3,q4,q5⟩:=N3.ins.four';obtain ⟨p1,p2,p3,p4,p5⟩:=N3.res.four';have HN:=zh N3;clear N3;go_wp2
 (with_reducible refine ((HN.o.set3 (v3%16)).set3 (v3%16%3)).done _ results169 _ ?_ ?_);rfl;omega
