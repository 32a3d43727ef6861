import Derived.OrdersHeld
import Derived.ChangeOld
import Derived.OpenShut
import Derived.ProofKit
import Derived.ShutString
import Derived.Test.YtcimaholejajpaaGreatF06
set_option linter.all false
set_option maxHeartbeats 2000000
namespace Go.Proofs.YtcimaholejajpaaGreat
open Go.RowKit
set_option maxRecDepth 100000
variable {P:Program}{Q:Exit->Act->World->Prop}{S:World->Prop}{a:Act}{fuel i:Nat}{listed:Array Bool}{md:Region.Mode}{oi:Oper}{ops:Array Oper}{w:World}
theorem aKf (zs:qi)(k:Nat)(hz:∀ j,0<=zs.getD j 0/\zs.getD j 0<=255)(v1:Int)(E1:Hid (zs.getD k 0=v1))(z0:0<=v1)(z0':v1<=255)(HOP:Hid (∀ W:World,(W.alloc (.cells q25 3)).cell? (qR W.heap.size ((v1%25).toNat))=some (qI 2))):
 ∃ (d x i:Int) (k':Nat),(-1<=(2:Int)/\(2:Int)<=64/\-1<=d/\d<=10/\-1<=x/\x<=10/\-1<=i/\i<=65536)/\∀ (r:Nat) (a:qO) (n c:Nat) (w:qw) (h:Rdr w r a n c zs k) (hcode:n≠0->∀ b off,a=some (qR b off)->b<w.heap.size),qC 169 #[.pointer (qP r)] w (dQ w r a n c zs 2 d x i k'):=by
 obtain ⟨v2,E2,z1,z1'⟩:=aR hz (k+1);obtain ⟨v3,E3,z2,z2'⟩:=aR hz (k+1+1);clear hz;refine ⟨v2%4,0,v3%16,k+1+1+1,by omega,fun r a n c w h hcode=>?_⟩;have hrw:=h.blk.lt;have T0:Turn (fun j=>j=r) w (w.alloc (.cells (qW 0 0 0 0) 131)):=aD w _;have kr0:=Blk.new w (qW 0 0 0 0) 131;have h0:=aH h ((Below.refl w.heap.size w).alloc aL (.cells (qW 0 0 0 0) 131));clear h;go_enter Tryz.func169,Tryz.ntmps169
 go_wp2_with fail
 refine (aK r a n c zs k v1 _ h0 E1).mono ?_;rintro e w1 ⟨rfl,h1,t1⟩;have kr1:=aA t1 kr0 (by omega);have T1:=T0.trans t1;clear t1 kr0 T0 h0;have hop:=HOP.out w1;have kop:=Blk.new (w1.alloc (.cells q25 3)) (qW 2 0 0 0) 131;have h1':=aH (aH h1 ((Below.refl w1.heap.size w1).alloc aL (.cells q25 3))) (brf.alloc aL (.cells (qW 2 0 0 0) 131));have T1':=(T1.trans (aD w1 (.cells q25 3))).trans (aD _ (.cells (qW 2 0 0 0) 131));have kr1':=(kr1.alloc (.cells q25 3)).alloc (.cells (qW 2 0 0 0) 131);have hlt1:=kr1.lt;clear kr1 T1 h1;try unfold qY at *
 simp only [xF] at kop;go_wp2_with fail
 refine (aK r a n c zs (k+1) v2 _ h1' E2).mono ?_;rintro e w2 ⟨rfl,h2,t2⟩;have kr2:=aA t2 kr1' (by omega);have ko2:=aA t2 kop (by omega);have T2:=T1'.trans t2;have hz2:=t2.size;try unfold qY at *
 simp only [xF] at hz2;clear t2 kr1' T1' h1' kop hop;obtain ⟨q1,q2,q3,q4,q5⟩:=ko2.four';obtain ⟨p1,p2,p3,p4,p5⟩:=kr2.four';go_wp2_with fail
 refine (aS 2 _).mono ?_;rintro e wx ⟨rfl,rfl⟩;have H:Is w w2 r a n c zs (k+1+1) (w1.heap.size+1) 2 0 0 0:=⟨kr2,ko2,h2,T2,by omega,hrw,hcode⟩;have HH:=zh H;clear H kr2 ko2 h2 T2 hcode;have hbig:w.heap.size<w1.heap.size+1:=by omega
 have hlt2:w1.heap.size+1<w2.heap.size:=by omega
 have hlt3:w.heap.size<w2.heap.size:=by omega
 rw [show us 2=5 from by decide];have N:=(HH.o.set1 (v2%4));go_wp2_with fail
 refine (aK r a n c zs (k+1+1) v3 _ N.rd E3).mono ?_;rintro e w3 ⟨rfl,hr3,t3⟩;have N3:=N.next hr3 t3;have hz3:=t3.size;try simp only [xF,aG] at hz3
 clear N hr3 t3 q1 q2 q3 q4 q5 p1 p2 p3 p4 p5 HH;obtain ⟨q1,q2,q3,q4,q5⟩:=N3.ins.four';obtain ⟨p1,p2,p3,p4,p5⟩:=N3.res.four';have HN:=zh N3;clear N3;go_wp2
 (with_reducible refine (HN.o.set3 (v3%16)).done _ Tryz.results169 _ ?_ ?_);rfl;omega
theorem aKe (zs:qi)(k:Nat)(hz:∀ j,0<=zs.getD j 0/\zs.getD j 0<=255)(v1:Int)(E1:Hid (zs.getD k 0=v1))(z0:0<=v1)(z0':v1<=255)(HOP:Hid (∀ W:World,(W.alloc (.cells q25 3)).cell? (qR W.heap.size ((v1%25).toNat))=some (qI 3))):
 ∃ (d x i:Int) (k':Nat),(-1<=(3:Int)/\(3:Int)<=64/\-1<=d/\d<=10/\-1<=x/\x<=10/\-1<=i/\i<=65536)/\∀ (r:Nat) (a:qO) (n c:Nat) (w:qw) (h:Rdr w r a n c zs k) (hcode:n≠0->∀ b off,a=some (qR b off)->b<w.heap.size),qC 169 #[.pointer (qP r)] w (dQ w r a n c zs 3 d x i k'):=by
 obtain ⟨v2,E2,z1,z1'⟩:=aR hz (k+1);obtain ⟨v3,E3,z2,z2'⟩:=aR hz (k+1+1);clear hz;refine ⟨v2%4,0,v3%16,k+1+1+1,by omega,fun r a n c w h hcode=>?_⟩;have hrw:=h.blk.lt;have T0:Turn (fun j=>j=r) w (w.alloc (.cells (qW 0 0 0 0) 131)):=aD w _;have kr0:=Blk.new w (qW 0 0 0 0) 131;have h0:=aH h ((Below.refl w.heap.size w).alloc aL (.cells (qW 0 0 0 0) 131));clear h;go_enter Tryz.func169,Tryz.ntmps169
 go_wp2_with fail
 refine (aK r a n c zs k v1 _ h0 E1).mono ?_;rintro e w1 ⟨rfl,h1,t1⟩;have kr1:=aA t1 kr0 (by omega);have T1:=T0.trans t1;clear t1 kr0 T0 h0;have hop:=HOP.out w1;have kop:=Blk.new (w1.alloc (.cells q25 3)) (qW 3 0 0 0) 131;have h1':=aH (aH h1 ((Below.refl w1.heap.size w1).alloc aL (.cells q25 3))) (brf.alloc aL (.cells (qW 3 0 0 0) 131));have T1':=(T1.trans (aD w1 (.cells q25 3))).trans (aD _ (.cells (qW 3 0 0 0) 131));have kr1':=(kr1.alloc (.cells q25 3)).alloc (.cells (qW 3 0 0 0) 131);have hlt1:=kr1.lt;clear kr1 T1 h1;try unfold qY at *
 simp only [xF] at kop;go_wp2_with fail
 refine (aK r a n c zs (k+1) v2 _ h1' E2).mono ?_;rintro e w2 ⟨rfl,h2,t2⟩;have kr2:=aA t2 kr1' (by omega);have ko2:=aA t2 kop (by omega);have T2:=T1'.trans t2;have hz2:=t2.size;try unfold qY at *
 simp only [xF] at hz2;clear t2 kr1' T1' h1' kop hop;obtain ⟨q1,q2,q3,q4,q5⟩:=ko2.four';obtain ⟨p1,p2,p3,p4,p5⟩:=kr2.four';go_wp2_with fail
 refine (aS 3 _).mono ?_;rintro e wx ⟨rfl,rfl⟩;have H:Is w w2 r a n c zs (k+1+1) (w1.heap.size+1) 3 0 0 0:=⟨kr2,ko2,h2,T2,by omega,hrw,hcode⟩;have HH:=zh H;clear H kr2 ko2 h2 T2 hcode;have hbig:w.heap.size<w1.heap.size+1:=by omega
 have hlt2:w1.heap.size+1<w2.heap.size:=by omega
 have hlt3:w.heap.size<w2.heap.size:=by omega
 rw [show us 3=5 from by decide];have N:=(HH.o.set1 (v2%4));go_wp2_with fail
 refine (aK r a n c zs (k+1+1) v3 _ N.rd E3).mono ?_;rintro e w3 ⟨rfl,hr3,t3⟩;have N3:=N.next hr3 t3;have hz3:=t3.size;try simp only [xF,aG] at hz3
 clear N hr3 t3 q1 q2 q3 q4 q5 p1 p2 p3 p4 p5 HH;obtain ⟨q1,q2,q3,q4,q5⟩:=N3.ins.four';obtain ⟨p1,p2,p3,p4,p5⟩:=N3.res.four';have HN:=zh N3;clear N3;go_wp2
 (with_reducible refine (HN.o.set3 (v3%16)).done _ Tryz.results169 _ ?_ ?_);rfl;omega
theorem aKd (zs:qi)(k:Nat)(hz:∀ j,0<=zs.getD j 0/\zs.getD j 0<=255)(v1:Int)(E1:Hid (zs.getD k 0=v1))(z0:0<=v1)(z0':v1<=255)(HOP:Hid (∀ W:World,(W.alloc (.cells q25 3)).cell? (qR W.heap.size ((v1%25).toNat))=some (qI 6))):
 ∃ (d x i:Int) (k':Nat),(-1<=(6:Int)/\(6:Int)<=64/\-1<=d/\d<=10/\-1<=x/\x<=10/\-1<=i/\i<=65536)/\∀ (r:Nat) (a:qO) (n c:Nat) (w:qw) (h:Rdr w r a n c zs k) (hcode:n≠0->∀ b off,a=some (qR b off)->b<w.heap.size),qC 169 #[.pointer (qP r)] w (dQ w r a n c zs 6 d x i k'):=by
 obtain ⟨v2,E2,z1,z1'⟩:=aR hz (k+1);obtain ⟨v3,E3,z2,z2'⟩:=aR hz (k+1+1);clear hz;obtain ⟨A,hA0,hA1,hAT⟩:=gH (v2/4%8).toNat (by omega);have HAT:=zh hAT;clear hAT;by_cases hA6:A=6
 .have HCD:=zh hA6;clear hA6;refine ⟨v2%4,A,v3%16,k+1+1+1,by omega,fun r a n c w h hcode=>?_⟩;have hrw:=h.blk.lt;have T0:Turn (fun j=>j=r) w (w.alloc (.cells (qW 0 0 0 0) 131)):=aD w _;have kr0:=Blk.new w (qW 0 0 0 0) 131;have h0:=aH h ((Below.refl w.heap.size w).alloc aL (.cells (qW 0 0 0 0) 131));clear h;go_enter Tryz.func169,Tryz.ntmps169
  go_wp2_with fail
  refine (aK r a n c zs k v1 _ h0 E1).mono ?_;rintro e w1 ⟨rfl,h1,t1⟩;have kr1:=aA t1 kr0 (by omega);have T1:=T0.trans t1;clear t1 kr0 T0 h0;have hop:=HOP.out w1;have kop:=Blk.new (w1.alloc (.cells q25 3)) (qW 6 0 0 0) 131;have h1':=aH (aH h1 ((Below.refl w1.heap.size w1).alloc aL (.cells q25 3))) (brf.alloc aL (.cells (qW 6 0 0 0) 131));have T1':=(T1.trans (aD w1 (.cells q25 3))).trans (aD _ (.cells (qW 6 0 0 0) 131));have kr1':=(kr1.alloc (.cells q25 3)).alloc (.cells (qW 6 0 0 0) 131);have hlt1:=kr1.lt;clear kr1 T1 h1;try unfold qY at *
  simp only [xF] at kop;go_wp2_with fail
  refine (aK r a n c zs (k+1) v2 _ h1' E2).mono ?_;rintro e w2 ⟨rfl,h2,t2⟩;have kr2:=aA t2 kr1' (by omega);have ko2:=aA t2 kop (by omega);have T2:=T1'.trans t2;have hz2:=t2.size;try unfold qY at *
  simp only [xF] at hz2;clear t2 kr1' T1' h1' kop hop;obtain ⟨q1,q2,q3,q4,q5⟩:=ko2.four';obtain ⟨p1,p2,p3,p4,p5⟩:=kr2.four';go_wp2_with fail
  refine (aS 6 _).mono ?_;rintro e wx ⟨rfl,rfl⟩;have H:Is w w2 r a n c zs (k+1+1) (w1.heap.size+1) 6 0 0 0:=⟨kr2,ko2,h2,T2,by omega,hrw,hcode⟩;have HH:=zh H;clear H kr2 ko2 h2 T2 hcode;have hbig:w.heap.size<w1.heap.size+1:=by omega
  have hlt2:w1.heap.size+1<w2.heap.size:=by omega
  have hlt3:w.heap.size<w2.heap.size:=by omega
  rw [show us 6=7 from by decide];have hA:=HAT.o (w2.setCell (qR (w1.heap.size+1) 1) (qI (v2%4)));try unfold qY at *
  simp only [aG] at hA;have N:=(((HH.o.set1 (v2%4)).set2 A).more (.cells #[qI 7,qI 6,qI 0,qI 1,qI 2,qI 7,qI 6,qI 3] 3));go_wp2_with fail
  refine (aK r a n c zs (k+1+1) v3 _ N.rd E3).mono ?_;rintro e w3 ⟨rfl,hr3,t3⟩;have N3:=N.next hr3 t3;have hz3:=t3.size;try simp only [xF,aG] at hz3
  clear N hr3 t3 q1 q2 q3 q4 q5 p1 p2 p3 p4 p5 HH hA;obtain ⟨q1,q2,q3,q4,q5⟩:=N3.ins.four';obtain ⟨p1,p2,p3,p4,p5⟩:=N3.res.four';have HN:=zh N3;clear N3;have hA6:=HCD.o;subst hA6;go_wp2
  (with_reducible refine (HN.o.set3 (v3%16)).done _ Tryz.results169 _ ?_ ?_);rfl;omega
 .have HCD:=zh hA6;clear hA6;refine ⟨v2%4,A,v3%16,k+1+1+1,by omega,fun r a n c w h hcode=>?_⟩;have hrw:=h.blk.lt;have T0:Turn (fun j=>j=r) w (w.alloc (.cells (qW 0 0 0 0) 131)):=aD w _;have kr0:=Blk.new w (qW 0 0 0 0) 131;have h0:=aH h ((Below.refl w.heap.size w).alloc aL (.cells (qW 0 0 0 0) 131));clear h;go_enter Tryz.func169,Tryz.ntmps169
  go_wp2_with fail
  refine (aK r a n c zs k v1 _ h0 E1).mono ?_;rintro e w1 ⟨rfl,h1,t1⟩;have kr1:=aA t1 kr0 (by omega);have T1:=T0.trans t1;clear t1 kr0 T0 h0;have hop:=HOP.out w1;have kop:=Blk.new (w1.alloc (.cells q25 3)) (qW 6 0 0 0) 131;have h1':=aH (aH h1 ((Below.refl w1.heap.size w1).alloc aL (.cells q25 3))) (brf.alloc aL (.cells (qW 6 0 0 0) 131));have T1':=(T1.trans (aD w1 (.cells q25 3))).trans (aD _ (.cells (qW 6 0 0 0) 131));have kr1':=(kr1.alloc (.cells q25 3)).alloc (.cells (qW 6 0 0 0) 131);have hlt1:=kr1.lt;clear kr1 T1 h1;try unfold qY at *
  simp only [xF] at kop;go_wp2_with fail
  refine (aK r a n c zs (k+1) v2 _ h1' E2).mono ?_;rintro e w2 ⟨rfl,h2,t2⟩;have kr2:=aA t2 kr1' (by omega);have ko2:=aA t2 kop (by omega);have T2:=T1'.trans t2;have hz2:=t2.size;try unfold qY at *
  simp only [xF] at hz2;clear t2 kr1' T1' h1' kop hop;obtain ⟨q1,q2,q3,q4,q5⟩:=ko2.four';obtain ⟨p1,p2,p3,p4,p5⟩:=kr2.four';go_wp2_with fail
  refine (aS 6 _).mono ?_;rintro e wx ⟨rfl,rfl⟩;have H:Is w w2 r a n c zs (k+1+1) (w1.heap.size+1) 6 0 0 0:=⟨kr2,ko2,h2,T2,by omega,hrw,hcode⟩;have HH:=zh H;clear H kr2 ko2 h2 T2 hcode;have hbig:w.heap.size<w1.heap.size+1:=by omega
  have hlt2:w1.heap.size+1<w2.heap.size:=by omega
  have hlt3:w.heap.size<w2.heap.size:=by omega
  rw [show us 6=7 from by decide];have hA:=HAT.o (w2.setCell (qR (w1.heap.size+1) 1) (qI (v2%4)));try unfold qY at *
  simp only [aG] at hA;have N:=(((HH.o.set1 (v2%4)).set2 A).more (.cells #[qI 7,qI 6,qI 0,qI 1,qI 2,qI 7,qI 6,qI 3] 3));go_wp2_with fail
  refine (aK r a n c zs (k+1+1) v3 _ N.rd E3).mono ?_;rintro e w3 ⟨rfl,hr3,t3⟩;have N3:=N.next hr3 t3;have hz3:=t3.size;try simp only [xF,aG] at hz3
  clear N hr3 t3 q1 q2 q3 q4 q5 p1 p2 p3 p4 p5 HH hA;obtain ⟨q1,q2,q3,q4,q5⟩:=N3.ins.four';obtain ⟨p1,p2,p3,p4,p5⟩:=N3.res.four';have HN:=zh N3;clear N3;have hA6:=HCD.o;have hA6:(A==6)=false:=by simpa using hA6
  go_wp2
  (with_reducible refine (HN.o.set3 (v3%16)).done _ Tryz.results169 _ ?_ ?_);rfl;omega
theorem aHq (zs:qi)(k:Nat)(hz:∀ j,0<=zs.getD j 0/\zs.getD j 0<=255)(v1:Int)(E1:Hid (zs.getD k 0=v1))(z0:0<=v1)(z0':v1<=255)(HOP:Hid (∀ W:World,(W.alloc (.cells q25 3)).cell? (qR W.heap.size ((v1%25).toNat))=some (qI 14))):
 ∃ (d x i:Int) (k':Nat),(-1<=(14:Int)/\(14:Int)<=64/\-1<=d/\d<=10/\-1<=x/\x<=10/\-1<=i/\i<=65536)/\∀ (r:Nat) (a:qO) (n c:Nat) (w:qw) (h:Rdr w r a n c zs k) (hcode:n≠0->∀ b off,a=some (qR b off)->b<w.heap.size),qC 169 #[.pointer (qP r)] w (dQ w r a n c zs 14 d x i k'):=by
 obtain ⟨v2,E2,z1,z1'⟩:=aR hz (k+1);obtain ⟨v3,E3,z2,z2'⟩:=aR hz (k+1+1);clear hz;obtain ⟨A,hA0,hA1,hAT⟩:=gH (v2/4%8).toNat (by omega);have HAT:=zh hAT;clear hAT;by_cases hA6:A=6
 .have HCD:=zh hA6;clear hA6;refine ⟨v2%4,A,65532-v3%16/4*4,k+1+1+1,by omega,fun r a n c w h hcode=>?_⟩;have hrw:=h.blk.lt;have T0:Turn (fun j=>j=r) w (w.alloc (.cells (qW 0 0 0 0) 131)):=aD w _;have kr0:=Blk.new w (qW 0 0 0 0) 131;have h0:=aH h ((Below.refl w.heap.size w).alloc aL (.cells (qW 0 0 0 0) 131));clear h;go_enter Tryz.func169,Tryz.ntmps169
  go_wp2_with fail
  refine (aK r a n c zs k v1 _ h0 E1).mono ?_;rintro e w1 ⟨rfl,h1,t1⟩;have kr1:=aA t1 kr0 (by omega);have T1:=T0.trans t1;clear t1 kr0 T0 h0;have hop:=HOP.out w1;have kop:=Blk.new (w1.alloc (.cells q25 3)) (qW 14 0 0 0) 131;have h1':=aH (aH h1 ((Below.refl w1.heap.size w1).alloc aL (.cells q25 3))) (brf.alloc aL (.cells (qW 14 0 0 0) 131));have T1':=(T1.trans (aD w1 (.cells q25 3))).trans (aD _ (.cells (qW 14 0 0 0) 131));have kr1':=(kr1.alloc (.cells q25 3)).alloc (.cells (qW 14 0 0 0) 131);have hlt1:=kr1.lt;clear kr1 T1 h1;try unfold qY at *
  simp only [xF] at kop;go_wp2_with fail
  refine (aK r a n c zs (k+1) v2 _ h1' E2).mono ?_;rintro e w2 ⟨rfl,h2,t2⟩;have kr2:=aA t2 kr1' (by omega);have ko2:=aA t2 kop (by omega);have T2:=T1'.trans t2;have hz2:=t2.size;try unfold qY at *
  simp only [xF] at hz2;clear t2 kr1' T1' h1' kop hop;obtain ⟨q1,q2,q3,q4,q5⟩:=ko2.four';obtain ⟨p1,p2,p3,p4,p5⟩:=kr2.four';go_wp2_with fail
  refine (aS 14 _).mono ?_;rintro e wx ⟨rfl,rfl⟩;have H:Is w w2 r a n c zs (k+1+1) (w1.heap.size+1) 14 0 0 0:=⟨kr2,ko2,h2,T2,by omega,hrw,hcode⟩;have HH:=zh H;clear H kr2 ko2 h2 T2 hcode;have hbig:w.heap.size<w1.heap.size+1:=by omega
  have hlt2:w1.heap.size+1<w2.heap.size:=by omega
  have hlt3:w.heap.size<w2.heap.size:=by omega
  rw [show us 14=7 from by decide];have hA:=HAT.o (w2.setCell (qR (w1.heap.size+1) 1) (qI (v2%4)));try unfold qY at *
  simp only [aG] at hA;have N:=(((HH.o.set1 (v2%4)).set2 A).more (.cells #[qI 7,qI 6,qI 0,qI 1,qI 2,qI 7,qI 6,qI 3] 3));go_wp2_with fail
  refine (aK r a n c zs (k+1+1) v3 _ N.rd E3).mono ?_;rintro e w3 ⟨rfl,hr3,t3⟩;have N3:=N.next hr3 t3;have hz3:=t3.size;try simp only [xF,aG] at hz3
  clear N hr3 t3 q1 q2 q3 q4 q5 p1 p2 p3 p4 p5 HH hA;obtain ⟨q1,q2,q3,q4,q5⟩:=N3.ins.four';obtain ⟨p1,p2,p3,p4,p5⟩:=N3.res.four';have HN:=zh N3;clear N3;have hA6:=HCD.o;subst hA6;go_wp2
  (with_reducible refine ((HN.o.set3 (v3%16)).set3 (65532-v3%16/4*4)).done _ Tryz.results169 _ ?_ ?_);rfl;omega
 .have HCD:=zh hA6;clear hA6;refine ⟨v2%4,A,v3%16,k+1+1+1,by omega,fun r a n c w h hcode=>?_⟩;have hrw:=h.blk.lt;have T0:Turn (fun j=>j=r) w (w.alloc (.cells (qW 0 0 0 0) 131)):=aD w _;have kr0:=Blk.new w (qW 0 0 0 0) 131;have h0:=aH h ((Below.refl w.heap.size w).alloc aL (.cells (qW 0 0 0 0) 131));clear h;go_enter Tryz.func169,Tryz.ntmps169
  go_wp2_with fail
  refine (aK r a n c zs k v1 _ h0 E1).mono ?_;rintro e w1 ⟨rfl,h1,t1⟩;have kr1:=aA t1 kr0 (by omega);have T1:=T0.trans t1;clear t1 kr0 T0 h0;have hop:=HOP.out w1;have kop:=Blk.new (w1.alloc (.cells q25 3)) (qW 14 0 0 0) 131;have h1':=aH (aH h1 ((Below.refl w1.heap.size w1).alloc aL (.cells q25 3))) (brf.alloc aL (.cells (qW 14 0 0 0) 131));have T1':=(T1.trans (aD w1 (.cells q25 3))).trans (aD _ (.cells (qW 14 0 0 0) 131));have kr1':=(kr1.alloc (.cells q25 3)).alloc (.cells (qW 14 0 0 0) 131);have hlt1:=kr1.lt;clear kr1 T1 h1;try unfold qY at *
  simp only [xF] at kop;go_wp2_with fail
  refine (aK r a n c zs (k+1) v2 _ h1' E2).mono ?_;rintro e w2 ⟨rfl,h2,t2⟩;have kr2:=aA t2 kr1' (by omega);have ko2:=aA t2 kop (by omega);have T2:=T1'.trans t2;have hz2:=t2.size;try unfold qY at *
  simp only [xF] at hz2;clear t2 kr1' T1' h1' kop hop;obtain ⟨q1,q2,q3,q4,q5⟩:=ko2.four';obtain ⟨p1,p2,p3,p4,p5⟩:=kr2.four';go_wp2_with fail
  refine (aS 14 _).mono ?_;rintro e wx ⟨rfl,rfl⟩;have H:Is w w2 r a n c zs (k+1+1) (w1.heap.size+1) 14 0 0 0:=⟨kr2,ko2,h2,T2,by omega,hrw,hcode⟩;have HH:=zh H;clear H kr2 ko2 h2 T2 hcode;have hbig:w.heap.size<w1.heap.size+1:=by omega
  have hlt2:w1.heap.size+1<w2.heap.size:=by omega
  have hlt3:w.heap.size<w2.heap.size:=by omega
  rw [show us 14=7 from by decide];have hA:=HAT.o (w2.setCell (qR (w1.heap.size+1) 1) (qI (v2%4)));try unfold qY at *
  simp only [aG] at hA;have N:=(((HH.o.set1 (v2%4)).set2 A).more (.cells #[qI 7,qI 6,qI 0,qI 1,qI 2,qI 7,qI 6,qI 3] 3));go_wp2_with fail
  refine (aK r a n c zs (k+1+1) v3 _ N.rd E3).mono ?_;rintro e w3 ⟨rfl,hr3,t3⟩;have N3:=N.next hr3 t3;have hz3:=t3.size;try simp only [xF,aG] at hz3
  clear N hr3 t3 q1 q2 q3 q4 q5 p1 p2 p3 p4 p5 HH hA;obtain ⟨q1,q2,q3,q4,q5⟩:=N3.ins.four';obtain ⟨p1,p2,p3,p4,p5⟩:=N3.res.four';have HN:=zh N3;clear N3;have hA6:=HCD.o;have hA6:(A==6)=false:=by simpa using hA6
  go_wp2
  (with_reducible refine (HN.o.set3 (v3%16)).done _ Tryz.results169 _ ?_ ?_);rfl;omega
theorem aHp (zs:qi)(k:Nat)(hz:∀ j,0<=zs.getD j 0/\zs.getD j 0<=255)(v1:Int)(E1:Hid (zs.getD k 0=v1))(z0:0<=v1)(z0':v1<=255)(HOP:Hid (∀ W:World,(W.alloc (.cells q25 3)).cell? (qR W.heap.size ((v1%25).toNat))=some (qI 15))):
 ∃ (d x i:Int) (k':Nat),(-1<=(15:Int)/\(15:Int)<=64/\-1<=d/\d<=10/\-1<=x/\x<=10/\-1<=i/\i<=65536)/\∀ (r:Nat) (a:qO) (n c:Nat) (w:qw) (h:Rdr w r a n c zs k) (hcode:n≠0->∀ b off,a=some (qR b off)->b<w.heap.size),qC 169 #[.pointer (qP r)] w (dQ w r a n c zs 15 d x i k'):=by
 obtain ⟨v2,E2,z1,z1'⟩:=aR hz (k+1);obtain ⟨v3,E3,z2,z2'⟩:=aR hz (k+1+1);clear hz;obtain ⟨A,hA0,hA1,hAT⟩:=gH (v2/4%8).toNat (by omega);have HAT:=zh hAT;clear hAT;by_cases hA6:A=6
 .have HCD:=zh hA6;clear hA6;refine ⟨v2%4,A,65532-v3%16/4*4,k+1+1+1,by omega,fun r a n c w h hcode=>?_⟩;have hrw:=h.blk.lt;have T0:Turn (fun j=>j=r) w (w.alloc (.cells (qW 0 0 0 0) 131)):=aD w _;have kr0:=Blk.new w (qW 0 0 0 0) 131;have h0:=aH h ((Below.refl w.heap.size w).alloc aL (.cells (qW 0 0 0 0) 131));clear h;go_enter Tryz.func169,Tryz.ntmps169
  go_wp2_with fail
  refine (aK r a n c zs k v1 _ h0 E1).mono ?_;rintro e w1 ⟨rfl,h1,t1⟩;have kr1:=aA t1 kr0 (by omega);have T1:=T0.trans t1;clear t1 kr0 T0 h0;have hop:=HOP.out w1;have kop:=Blk.new (w1.alloc (.cells q25 3)) (qW 15 0 0 0) 131;have h1':=aH (aH h1 ((Below.refl w1.heap.size w1).alloc aL (.cells q25 3))) (brf.alloc aL (.cells (qW 15 0 0 0) 131));have T1':=(T1.trans (aD w1 (.cells q25 3))).trans (aD _ (.cells (qW 15 0 0 0) 131));have kr1':=(kr1.alloc (.cells q25 3)).alloc (.cells (qW 15 0 0 0) 131);have hlt1:=kr1.lt;clear kr1 T1 h1;try unfold qY at *
  simp only [xF] at kop;go_wp2_with fail
  refine (aK r a n c zs (k+1) v2 _ h1' E2).mono ?_;rintro e w2 ⟨rfl,h2,t2⟩;have kr2:=aA t2 kr1' (by omega);have ko2:=aA t2 kop (by omega);have T2:=T1'.trans t2;have hz2:=t2.size;try unfold qY at *
  simp only [xF] at hz2;clear t2 kr1' T1' h1' kop hop;obtain ⟨q1,q2,q3,q4,q5⟩:=ko2.four';obtain ⟨p1,p2,p3,p4,p5⟩:=kr2.four';go_wp2_with fail
  refine (aS 15 _).mono ?_;rintro e wx ⟨rfl,rfl⟩;have H:Is w w2 r a n c zs (k+1+1) (w1.heap.size+1) 15 0 0 0:=⟨kr2,ko2,h2,T2,by omega,hrw,hcode⟩;have HH:=zh H;clear H kr2 ko2 h2 T2 hcode;have hbig:w.heap.size<w1.heap.size+1:=by omega
  have hlt2:w1.heap.size+1<w2.heap.size:=by omega
  have hlt3:w.heap.size<w2.heap.size:=by omega
  rw [show us 15=7 from by decide];have hA:=HAT.o (w2.setCell (qR (w1.heap.size+1) 1) (qI (v2%4)));try unfold qY at *
  simp only [aG] at hA;have N:=(((HH.o.set1 (v2%4)).set2 A).more (.cells #[qI 7,qI 6,qI 0,qI 1,qI 2,qI 7,qI 6,qI 3] 3));go_wp2_with fail
  refine (aK r a n c zs (k+1+1) v3 _ N.rd E3).mono ?_;rintro e w3 ⟨rfl,hr3,t3⟩;have N3:=N.next hr3 t3;have hz3:=t3.size;try simp only [xF,aG] at hz3
  clear N hr3 t3 q1 q2 q3 q4 q5 p1 p2 p3 p4 p5 HH hA;obtain ⟨q1,q2,q3,q4,q5⟩:=N3.ins.four';obtain ⟨p1,p2,p3,p4,p5⟩:=N3.res.four';have HN:=zh N3;clear N3;have hA6:=HCD.o;subst hA6;go_wp2
  (with_reducible refine ((HN.o.set3 (v3%16)).set3 (65532-v3%16/4*4)).done _ Tryz.results169 _ ?_ ?_);rfl;omega
 .have HCD:=zh hA6;clear hA6;refine ⟨v2%4,A,v3%16,k+1+1+1,by omega,fun r a n c w h hcode=>?_⟩;have hrw:=h.blk.lt;have T0:Turn (fun j=>j=r) w (w.alloc (.cells (qW 0 0 0 0) 131)):=aD w _;have kr0:=Blk.new w (qW 0 0 0 0) 131;have h0:=aH h ((Below.refl w.heap.size w).alloc aL (.cells (qW 0 0 0 0) 131));clear h;go_enter Tryz.func169,Tryz.ntmps169
  go_wp2_with fail
  refine (aK r a n c zs k v1 _ h0 E1).mono ?_;rintro e w1 ⟨rfl,h1,t1⟩;have kr1:=aA t1 kr0 (by omega);have T1:=T0.trans t1;clear t1 kr0 T0 h0;have hop:=HOP.out w1;have kop:=Blk.new (w1.alloc (.cells q25 3)) (qW 15 0 0 0) 131;have h1':=aH (aH h1 ((Below.refl w1.heap.size w1).alloc aL (.cells q25 3))) (brf.alloc aL (.cells (qW 15 0 0 0) 131));have T1':=(T1.trans (aD w1 (.cells q25 3))).trans (aD _ (.cells (qW 15 0 0 0) 131));have kr1':=(kr1.alloc (.cells q25 3)).alloc (.cells (qW 15 0 0 0) 131);have hlt1:=kr1.lt;clear kr1 T1 h1;try unfold qY at *
  simp only [xF] at kop;go_wp2_with fail
  refine (aK r a n c zs (k+1) v2 _ h1' E2).mono ?_;rintro e w2 ⟨rfl,h2,t2⟩;have kr2:=aA t2 kr1' (by omega);have ko2:=aA t2 kop (by omega);have T2:=T1'.trans t2;have hz2:=t2.size;try unfold qY at *
  simp only [xF] at hz2;clear t2 kr1' T1' h1' kop hop;obtain ⟨q1,q2,q3,q4,q5⟩:=ko2.four';obtain ⟨p1,p2,p3,p4,p5⟩:=kr2.four';go_wp2_with fail
  refine (aS 15 _).mono ?_;rintro e wx ⟨rfl,rfl⟩;have H:Is w w2 r a n c zs (k+1+1) (w1.heap.size+1) 15 0 0 0:=⟨kr2,ko2,h2,T2,by omega,hrw,hcode⟩;have HH:=zh H;clear H kr2 ko2 h2 T2 hcode;have hbig:w.heap.size<w1.heap.size+1:=by omega
  have hlt2:w1.heap.size+1<w2.heap.size:=by omega
  have hlt3:w.heap.size<w2.heap.size:=by omega
  rw [show us 15=7 from by decide];have hA:=HAT.o (w2.setCell (qR (w1.heap.size+1) 1) (qI (v2%4)));try unfold qY at *
  simp only [aG] at hA;have N:=(((HH.o.set1 (v2%4)).set2 A).more (.cells #[qI 7,qI 6,qI 0,qI 1,qI 2,qI 7,qI 6,qI 3] 3));go_wp2_with fail
  refine (aK r a n c zs (k+1+1) v3 _ N.rd E3).mono ?_;rintro e w3 ⟨rfl,hr3,t3⟩;have N3:=N.next hr3 t3;have hz3:=t3.size;try simp only [xF,aG] at hz3
  clear N hr3 t3 q1 q2 q3 q4 q5 p1 p2 p3 p4 p5 HH hA;obtain ⟨q1,q2,q3,q4,q5⟩:=N3.ins.four';obtain ⟨p1,p2,p3,p4,p5⟩:=N3.res.four';have HN:=zh N3;clear N3;have hA6:=HCD.o;have hA6:(A==6)=false:=by simpa using hA6
  go_wp2
  (with_reducible refine (HN.o.set3 (v3%16)).done _ Tryz.results169 _ ?_ ?_);rfl;omega
theorem aHo (zs:qi)(k:Nat)(hz:∀ j,0<=zs.getD j 0/\zs.getD j 0<=255)(v1:Int)(E1:Hid (zs.getD k 0=v1))(z0:0<=v1)(z0':v1<=255)(HOP:Hid (∀ W:World,(W.alloc (.cells q25 3)).cell? (qR W.heap.size ((v1%25).toNat))=some (qI 16))):
 ∃ (d x i:Int) (k':Nat),(-1<=(16:Int)/\(16:Int)<=64/\-1<=d/\d<=10/\-1<=x/\x<=10/\-1<=i/\i<=65536)/\∀ (r:Nat) (a:qO) (n c:Nat) (w:qw) (h:Rdr w r a n c zs k) (hcode:n≠0->∀ b off,a=some (qR b off)->b<w.heap.size),qC 169 #[.pointer (qP r)] w (dQ w r a n c zs 16 d x i k'):=by
 obtain ⟨v2,E2,z1,z1'⟩:=aR hz (k+1);obtain ⟨v3,E3,z2,z2'⟩:=aR hz (k+1+1);clear hz;obtain ⟨A,hA0,hA1,hAT⟩:=gH (v2/4%8).toNat (by omega);have HAT:=zh hAT;clear hAT;by_cases hA6:A=6
 .have HCD:=zh hA6;clear hA6;refine ⟨v2%4,A,65532-v3%16/4*4,k+1+1+1,by omega,fun r a n c w h hcode=>?_⟩;have hrw:=h.blk.lt;have T0:Turn (fun j=>j=r) w (w.alloc (.cells (qW 0 0 0 0) 131)):=aD w _;have kr0:=Blk.new w (qW 0 0 0 0) 131;have h0:=aH h ((Below.refl w.heap.size w).alloc aL (.cells (qW 0 0 0 0) 131));clear h;go_enter Tryz.func169,Tryz.ntmps169
  go_wp2_with fail
  refine (aK r a n c zs k v1 _ h0 E1).mono ?_;rintro e w1 ⟨rfl,h1,t1⟩;have kr1:=aA t1 kr0 (by omega);have T1:=T0.trans t1;clear t1 kr0 T0 h0;have hop:=HOP.out w1;have kop:=Blk.new (w1.alloc (.cells q25 3)) (qW 16 0 0 0) 131;have h1':=aH (aH h1 ((Below.refl w1.heap.size w1).alloc aL (.cells q25 3))) (brf.alloc aL (.cells (qW 16 0 0 0) 131));have T1':=(T1.trans (aD w1 (.cells q25 3))).trans (aD _ (.cells (qW 16 0 0 0) 131));have kr1':=(kr1.alloc (.cells q25 3)).alloc (.cells (qW 16 0 0 0) 131);have hlt1:=kr1.lt;clear kr1 T1 h1;try unfold qY at *
  simp only [xF] at kop;go_wp2_with fail
  refine (aK r a n c zs (k+1) v2 _ h1' E2).mono ?_;rintro e w2 ⟨rfl,h2,t2⟩;have kr2:=aA t2 kr1' (by omega);have ko2:=aA t2 kop (by omega);have T2:=T1'.trans t2;have hz2:=t2.size;try unfold qY at *
  simp only [xF] at hz2;clear t2 kr1' T1' h1' kop hop;obtain ⟨q1,q2,q3,q4,q5⟩:=ko2.four';obtain ⟨p1,p2,p3,p4,p5⟩:=kr2.four';go_wp2_with fail
  refine (aS 16 _).mono ?_;rintro e wx ⟨rfl,rfl⟩;have H:Is w w2 r a n c zs (k+1+1) (w1.heap.size+1) 16 0 0 0:=⟨kr2,ko2,h2,T2,by omega,hrw,hcode⟩;have HH:=zh H;clear H kr2 ko2 h2 T2 hcode;have hbig:w.heap.size<w1.heap.size+1:=by omega
  have hlt2:w1.heap.size+1<w2.heap.size:=by omega
  have hlt3:w.heap.size<w2.heap.size:=by omega
  rw [show us 16=7 from by decide];have hA:=HAT.o (w2.setCell (qR (w1.heap.size+1) 1) (qI (v2%4)));try unfold qY at *
  simp only [aG] at hA;have N:=(((HH.o.set1 (v2%4)).set2 A).more (.cells #[qI 7,qI 6,qI 0,qI 1,qI 2,qI 7,qI 6,qI 3] 3));go_wp2_with fail
  refine (aK r a n c zs (k+1+1) v3 _ N.rd E3).mono ?_;rintro e w3 ⟨rfl,hr3,t3⟩;have N3:=N.next hr3 t3;have hz3:=t3.size;try simp only [xF,aG] at hz3
  clear N hr3 t3 q1 q2 q3 q4 q5 p1 p2 p3 p4 p5 HH hA;obtain ⟨q1,q2,q3,q4,q5⟩:=N3.ins.four';obtain ⟨p1,p2,p3,p4,p5⟩:=N3.res.four';have HN:=zh N3;clear N3;have hA6:=HCD.o;subst hA6;have hx:=((((HN.o.set3 (v3%16)).set3 (v3%16/4*4)).set3 (65532-v3%16/4*4)).ins.four').2.2.2.1;go_wp2
  (with_reducible refine (((HN.o.set3 (v3%16)).set3 (v3%16/4*4)).set3 (65532-v3%16/4*4)).done _ Tryz.results169 _ ?_ ?_);rfl;omega
 .have HCD:=zh hA6;clear hA6;refine ⟨v2%4,A,v3%16/4*4,k+1+1+1,by omega,fun r a n c w h hcode=>?_⟩;have hrw:=h.blk.lt;have T0:Turn (fun j=>j=r) w (w.alloc (.cells (qW 0 0 0 0) 131)):=aD w _;have kr0:=Blk.new w (qW 0 0 0 0) 131;have h0:=aH h ((Below.refl w.heap.size w).alloc aL (.cells (qW 0 0 0 0) 131));clear h;go_enter Tryz.func169,Tryz.ntmps169
  go_wp2_with fail
  refine (aK r a n c zs k v1 _ h0 E1).mono ?_;rintro e w1 ⟨rfl,h1,t1⟩;have kr1:=aA t1 kr0 (by omega);have T1:=T0.trans t1;clear t1 kr0 T0 h0;have hop:=HOP.out w1;have kop:=Blk.new (w1.alloc (.cells q25 3)) (qW 16 0 0 0) 131;have h1':=aH (aH h1 ((Below.refl w1.heap.size w1).alloc aL (.cells q25 3))) (brf.alloc aL (.cells (qW 16 0 0 0) 131));have T1':=(T1.trans (aD w1 (.cells q25 3))).trans (aD _ (.cells (qW 16 0 0 0) 131));have kr1':=(kr1.alloc (.cells q25 3)).alloc (.cells (qW 16 0 0 0) 131);have hlt1:=kr1.lt;clear kr1 T1 h1;try unfold qY at *
  simp only [xF] at kop;go_wp2_with fail
  refine (aK r a n c zs (k+1) v2 _ h1' E2).mono ?_;rintro e w2 ⟨rfl,h2,t2⟩;have kr2:=aA t2 kr1' (by omega);have ko2:=aA t2 kop (by omega);have T2:=T1'.trans t2;have hz2:=t2.size;try unfold qY at *
  simp only [xF] at hz2;clear t2 kr1' T1' h1' kop hop;obtain ⟨q1,q2,q3,q4,q5⟩:=ko2.four';obtain ⟨p1,p2,p3,p4,p5⟩:=kr2.four';go_wp2_with fail
  refine (aS 16 _).mono ?_;rintro e wx ⟨rfl,rfl⟩;have H:Is w w2 r a n c zs (k+1+1) (w1.heap.size+1) 16 0 0 0:=⟨kr2,ko2,h2,T2,by omega,hrw,hcode⟩;have HH:=zh H;clear H kr2 ko2 h2 T2 hcode;have hbig:w.heap.size<w1.heap.size+1:=by omega
  have hlt2:w1.heap.size+1<w2.heap.size:=by omega
  have hlt3:w.heap.size<w2.heap.size:=by omega
  rw [show us 16=7 from by decide];have hA:=HAT.o (w2.setCell (qR (w1.heap.size+1) 1) (qI (v2%4)));try unfold qY at *
  simp only [aG] at hA;have N:=(((HH.o.set1 (v2%4)).set2 A).more (.cells #[qI 7,qI 6,qI 0,qI 1,qI 2,qI 7,qI 6,qI 3] 3));go_wp2_with fail
  refine (aK r a n c zs (k+1+1) v3 _ N.rd E3).mono ?_;rintro e w3 ⟨rfl,hr3,t3⟩;have N3:=N.next hr3 t3;have hz3:=t3.size;try simp only [xF,aG] at hz3
  clear N hr3 t3 q1 q2 q3 q4 q5 p1 p2 p3 p4 p5 HH hA;obtain ⟨q1,q2,q3,q4,q5⟩:=N3.ins.four';obtain ⟨p1,p2,p3,p4,p5⟩:=N3.res.four';have HN:=zh N3;clear N3;have hA6:=HCD.o;have hA6:(A==6)=false:=by simpa using hA6
  go_wp2
  (with_reducible refine ((HN.o.set3 (v3%16)).set3 (v3%16/4*4)).done _ Tryz.results169 _ ?_ ?_);rfl;omega
theorem aHn (zs:qi)(k:Nat)(hz:∀ j,0<=zs.getD j 0/\zs.getD j 0<=255)(v1:Int)(E1:Hid (zs.getD k 0=v1))(z0:0<=v1)(z0':v1<=255)(HOP:Hid (∀ W:World,(W.alloc (.cells q25 3)).cell? (qR W.heap.size ((v1%25).toNat))=some (qI 17))):
 ∃ (d x i:Int) (k':Nat),(-1<=(17:Int)/\(17:Int)<=64/\-1<=d/\d<=10/\-1<=x/\x<=10/\-1<=i/\i<=65536)/\∀ (r:Nat) (a:qO) (n c:Nat) (w:qw) (h:Rdr w r a n c zs k) (hcode:n≠0->∀ b off,a=some (qR b off)->b<w.heap.size),qC 169 #[.pointer (qP r)] w (dQ w r a n c zs 17 d x i k'):=by
 obtain ⟨v2,E2,z1,z1'⟩:=aR hz (k+1);obtain ⟨v3,E3,z2,z2'⟩:=aR hz (k+1+1);clear hz;obtain ⟨A,hA0,hA1,hAT⟩:=gH (v2/4%8).toNat (by omega);have HAT:=zh hAT;clear hAT;by_cases hA6:A=6
 .have HCD:=zh hA6;clear hA6;refine ⟨v2%4,A,65532-v3%16/4*4,k+1+1+1,by omega,fun r a n c w h hcode=>?_⟩;have hrw:=h.blk.lt;have T0:Turn (fun j=>j=r) w (w.alloc (.cells (qW 0 0 0 0) 131)):=aD w _;have kr0:=Blk.new w (qW 0 0 0 0) 131;have h0:=aH h ((Below.refl w.heap.size w).alloc aL (.cells (qW 0 0 0 0) 131));clear h;go_enter Tryz.func169,Tryz.ntmps169
  go_wp2_with fail
  refine (aK r a n c zs k v1 _ h0 E1).mono ?_;rintro e w1 ⟨rfl,h1,t1⟩;have kr1:=aA t1 kr0 (by omega);have T1:=T0.trans t1;clear t1 kr0 T0 h0;have hop:=HOP.out w1;have kop:=Blk.new (w1.alloc (.cells q25 3)) (qW 17 0 0 0) 131;have h1':=aH (aH h1 ((Below.refl w1.heap.size w1).alloc aL (.cells q25 3))) (brf.alloc aL (.cells (qW 17 0 0 0) 131));have T1':=(T1.trans (aD w1 (.cells q25 3))).trans (aD _ (.cells (qW 17 0 0 0) 131));have kr1':=(kr1.alloc (.cells q25 3)).alloc (.cells (qW 17 0 0 0) 131);have hlt1:=kr1.lt;clear kr1 T1 h1;try unfold qY at *
  simp only [xF] at kop;go_wp2_with fail
  refine (aK r a n c zs (k+1) v2 _ h1' E2).mono ?_;rintro e w2 ⟨rfl,h2,t2⟩;have kr2:=aA t2 kr1' (by omega);have ko2:=aA t2 kop (by omega);have T2:=T1'.trans t2;have hz2:=t2.size;try unfold qY at *
  simp only [xF] at hz2;clear t2 kr1' T1' h1' kop hop;obtain ⟨q1,q2,q3,q4,q5⟩:=ko2.four';obtain ⟨p1,p2,p3,p4,p5⟩:=kr2.four';go_wp2_with fail
  refine (aS 17 _).mono ?_;rintro e wx ⟨rfl,rfl⟩;have H:Is w w2 r a n c zs (k+1+1) (w1.heap.size+1) 17 0 0 0:=⟨kr2,ko2,h2,T2,by omega,hrw,hcode⟩;have HH:=zh H;clear H kr2 ko2 h2 T2 hcode;have hbig:w.heap.size<w1.heap.size+1:=by omega
  have hlt2:w1.heap.size+1<w2.heap.size:=by omega
  have hlt3:w.heap.size<w2.heap.size:=by omega
  rw [show us 17=7 from by decide];have hA:=HAT.o (w2.setCell (qR (w1.heap.size+1) 1) (qI (v2%4)));try unfold qY at *
  simp only [aG] at hA;have N:=(((HH.o.set1 (v2%4)).set2 A).more (.cells #[qI 7,qI 6,qI 0,qI 1,qI 2,qI 7,qI 6,qI 3] 3));go_wp2_with fail
  refine (aK r a n c zs (k+1+1) v3 _ N.rd E3).mono ?_;rintro e w3 ⟨rfl,hr3,t3⟩;have N3:=N.next hr3 t3;have hz3:=t3.size;try simp only [xF,aG] at hz3
  clear N hr3 t3 q1 q2 q3 q4 q5 p1 p2 p3 p4 p5 HH hA;obtain ⟨q1,q2,q3,q4,q5⟩:=N3.ins.four';obtain ⟨p1,p2,p3,p4,p5⟩:=N3.res.four';have HN:=zh N3;clear N3;have hA6:=HCD.o;subst hA6;go_wp2
  (with_reducible refine ((HN.o.set3 (v3%16)).set3 (65532-v3%16/4*4)).done _ Tryz.results169 _ ?_ ?_);rfl;omega
 .have HCD:=zh hA6;clear hA6;refine ⟨v2%4,A,v3%16,k+1+1+1,by omega,fun r a n c w h hcode=>?_⟩;have hrw:=h.blk.lt;have T0:Turn (fun j=>j=r) w (w.alloc (.cells (qW 0 0 0 0) 131)):=aD w _;have kr0:=Blk.new w (qW 0 0 0 0) 131;have h0:=aH h ((Below.refl w.heap.size w).alloc aL (.cells (qW 0 0 0 0) 131));clear h;go_enter Tryz.func169,Tryz.ntmps169
  go_wp2_with fail
  refine (aK r a n c zs k v1 _ h0 E1).mono ?_;rintro e w1 ⟨rfl,h1,t1⟩;have kr1:=aA t1 kr0 (by omega);have T1:=T0.trans t1;clear t1 kr0 T0 h0;have hop:=HOP.out w1;have kop:=Blk.new (w1.alloc (.cells q25 3)) (qW 17 0 0 0) 131;have h1':=aH (aH h1 ((Below.refl w1.heap.size w1).alloc aL (.cells q25 3))) (brf.alloc aL (.cells (qW 17 0 0 0) 131));have T1':=(T1.trans (aD w1 (.cells q25 3))).trans (aD _ (.cells (qW 17 0 0 0) 131));have kr1':=(kr1.alloc (.cells q25 3)).alloc (.cells (qW 17 0 0 0) 131);have hlt1:=kr1.lt;clear kr1 T1 h1;try unfold qY at *
  simp only [xF] at kop;go_wp2_with fail
  refine (aK r a n c zs (k+1) v2 _ h1' E2).mono ?_;rintro e w2 ⟨rfl,h2,t2⟩;have kr2:=aA t2 kr1' (by omega);have ko2:=aA t2 kop (by omega);have T2:=T1'.trans t2;have hz2:=t2.size;try unfold qY at *
  simp only [xF] at hz2;clear t2 kr1' T1' h1' kop hop;obtain ⟨q1,q2,q3,q4,q5⟩:=ko2.four';obtain ⟨p1,p2,p3,p4,p5⟩:=kr2.four';go_wp2_with fail
  refine (aS 17 _).mono ?_;rintro e wx ⟨rfl,rfl⟩;have H:Is w w2 r a n c zs (k+1+1) (w1.heap.size+1) 17 0 0 0:=⟨kr2,ko2,h2,T2,by omega,hrw,hcode⟩;have HH:=zh H;clear H kr2 ko2 h2 T2 hcode;have hbig:w.heap.size<w1.heap.size+1:=by omega
  have hlt2:w1.heap.size+1<w2.heap.size:=by omega
  have hlt3:w.heap.size<w2.heap.size:=by omega
  rw [show us 17=7 from by decide];have hA:=HAT.o (w2.setCell (qR (w1.heap.size+1) 1) (qI (v2%4)));try unfold qY at *
  simp only [aG] at hA;have N:=(((HH.o.set1 (v2%4)).set2 A).more (.cells #[qI 7,qI 6,qI 0,qI 1,qI 2,qI 7,qI 6,qI 3] 3));go_wp2_with fail
  refine (aK r a n c zs (k+1+1) v3 _ N.rd E3).mono ?_;rintro e w3 ⟨rfl,hr3,t3⟩;have N3:=N.next hr3 t3;have hz3:=t3.size;try simp only [xF,aG] at hz3
  clear N hr3 t3 q1 q2 q3 q4 q5 p1 p2 p3 p4 p5 HH hA;obtain ⟨q1,q2,q3,q4,q5⟩:=N3.ins.four';obtain ⟨p1,p2,p3,p4,p5⟩:=N3.res.four';have HN:=zh N3;clear N3;have hA6:=HCD.o;have hA6:(A==6)=false:=by simpa using hA6
  go_wp2
  (with_reducible refine (HN.o.set3 (v3%16)).done _ Tryz.results169 _ ?_ ?_);rfl;omega
theorem tkv {v:Value}(hi:ops[i]?=some oi)(hc:(Region.noSelect ops&&Region.free md ops listed i&&(Region.ready md ops listed).contains i)=true)(hQ:∀ c a w,Q (.panic c) (a.put oi.dst v) w->Q (.panic c) a w)(hw:Region.wanted oi (yielded ops a.tmps)=true)(hy:∀ w,S w->(execOp a.eval oi).run P w=.ok (.value v) w)(hS:S w)(h:wpAnyH P md ops Q S fuel (listed.setIfInBounds i true) (a.put oi.dst v) w):wpAnyH P md ops Q S (fuel+1) listed a w:=by
 simp only [Bool.and_eq_true] at hc;exact wpAnyH_take hi hc.1.1 hc.1.2 hc.2 hQ (Or.inl ⟨hw,hy⟩) hS h
theorem tks (hi:ops[i]?=some oi)(hc:(Region.noSelect ops&&Region.free md ops listed i&&(Region.ready md ops listed).contains i)=true)(hQ:∀ c a w,Q (.panic c) (a.put oi.dst undef) w->Q (.panic c) a w)(hw:Region.wanted oi (yielded ops a.tmps)=false)(hS:S w)(h:wpAnyH P md ops Q S fuel (listed.setIfInBounds i true) (a.put oi.dst undef) w):wpAnyH P md ops Q S (fuel+1) listed a w:=by
 simp only [Bool.and_eq_true] at hc;exact wpAnyH_take hi hc.1.1 hc.1.2 hc.2 hQ (Or.inr ⟨hw,rfl⟩) hS h
theorem tkV (i:Nat)(v:Value)(hi:ops[i]?=some oi)(hy:∀ w,S w->(execOp a.eval oi).run P w=.ok (.value v) w)(h:wpAnyH P md ops Q S fuel (listed.setIfInBounds i true) (a.put oi.dst v) w)(hc:(Region.noSelect ops&&Region.free md ops listed i&&(Region.ready md ops listed).contains i)=true:=by kernel_rfl)(hQ:∀ c a w,Q (.panic c) (a.put oi.dst v) w->Q (.panic c) a w:=by exact fun _ _ _ h=>h)(hw:Region.wanted oi (yielded ops a.tmps)=true:=by rfl)(hS:S w:=by assumption):wpAnyH P md ops Q S (fuel+1) listed a w:=tkv hi hc hQ hw hy hS h
theorem tkS (i:Nat)(hi:ops[i]?=some oi)(h:wpAnyH P md ops Q S fuel (listed.setIfInBounds i true) (a.put oi.dst undef) w)(hc:(Region.noSelect ops&&Region.free md ops listed i&&(Region.ready md ops listed).contains i)=true:=by kernel_rfl)(hQ:∀ c a w,Q (.panic c) (a.put oi.dst undef) w->Q (.panic c) a w:=by exact fun _ _ _ h=>h)(hw:Region.wanted oi (yielded ops a.tmps)=false:=by rfl)(hS:S w:=by assumption):wpAnyH P md ops Q S (fuel+1) listed a w:=tks hi hc hQ hw hS h
theorem mU (P:Prop):∃ b:Bool,b=true ↔ P:=by
 by_cases c:P
 .exact ⟨true,fun _=>c,fun _=>rfl⟩
 .exact ⟨false,fun h=>Bool.noConfusion h,fun h=>absurd h c⟩
end Go.Proofs.YtcimaholejajpaaGreat
namespace Go.Proofs.YtcimaholejajpaaGreat
open Go.ChangeShapes Go.WideShapes Go.ChangeAt Go.RowKit
variable {base:Nat}{held:Bool}
theorem own:ownKnob Tryz.prog.godebug=none:=by kernel_rfl
theorem aKc:laidOutB Tryz.prog=true:=by kernel_rfl
theorem aNc {z:Int}(h:(Lit.int .u8 z).wf=true):0<=z/\z<=255:=by
 simp [Lit.wf,IntKind.min,IntKind.max,IntKind.signed,IntKind.bits] at h;omega
set_option maxRecDepth 100000 in
theorem aCz {H:Type}{enc:TypeId×Value->H}{w:qw}{fuel:Nat}{cs:List Value}{x:DataW H×List MemPlace}
 (h:DataW.trod enc Tryz.prog w base (fun _=>true) held fuel 22 cs=some x):∃ a n cap zs,cs=[qS a n cap]/\BS w a n cap zs:=by
 rcases open_ints Tryz.underlying22 Tryz.underlying5 (by kernel_rfl) h with ⟨hcs,_⟩|⟨x,l,c,zs,hcs,_,hl,hm,hz,_,hcell,hwz⟩
 .exact ⟨none,0,0,[],hcs,rfl,Nat.zero_le _,by simp,fun h=>absurd rfl h,aL⟩
 .simp at hz;refine ⟨some x,l,c,zs.take l,hcs,by simp;omega,by omega,fun z hz'=>aNc (hwz z (List.mem_of_mem_take hz')),fun hl0=>?_,hl⟩;obtain ⟨b,off,spot⟩:=x;have hspot:spot=none:=by simpa [Addr.add] using World.cell?_spot (hcell 0 (by omega))
  subst hspot;refine ⟨b,off,rfl,fun i hi=>?_⟩;have:=hcell i (by omega)
  have ea:(Addr.add (qR b off) i)=(qR b (off+i)):=by
   simp only [Addr.add];split
   .next h=>subst h;rfl
   .rfl
  rw [ea] at this;rw [this];simp [List.getD_eq_getElem?_getD,hi]
set_option maxRecDepth 100000 in
theorem aB6 {H:Type}{enc:TypeId×Value->H}{w:qw}{b0:Nat}{r:Reach}{v:Value}{d:DataW H}{p:List MemPlace}
 (hv:Value.okWide Tryz.prog w r b0 22 v) (h:DataW.Trod enc Tryz.prog w base (fun _=>true) held 22 v d p):
 ∃ a n cap zs,v=qS a n cap/\BS w a n cap zs:=by
 obtain ⟨a0,len0,cap0,rfl⟩:=okWide_slice Tryz.underlying22 hv;obtain ⟨fuel,hf⟩:=h;obtain ⟨a,n,cap,zs,hcs,hb⟩:=aCz hf;simp [Value.cells] at hcs;obtain ⟨rfl,rfl,rfl⟩:=hcs;exact ⟨_,_,_,zs,rfl,hb⟩
