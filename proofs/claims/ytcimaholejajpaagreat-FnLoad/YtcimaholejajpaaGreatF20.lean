import Derived.Test.YtcimaholejajpaaGreatF19
set_option linter.all false
set_option maxHeartbeats 4000000
namespace Go.Proofs.YtcimaholejajpaaGreat
open Go.RowKit
open Go.Proofs.Tryz
set_option maxRecDepth 100000
variable {g k q:Nat}{z0 z1 z2 z3:Value}
def st4 (W:qw)(k:Nat)(v0 v1 v2 v3:Value):World:=(((W.setCell (qR k 0) v0).setCell (qR k 1) v1).setCell (qR k 2) v2).setCell (qR k 3) v3
theorem gL (W:qw)(k:Nat)(v0 v1 v2 v3:Value):Turn (fun j=>j=k) W (st4 W k v0 v1 v2 v3):=(((aC W k 0 v0).trans (aC _ k 1 v1)).trans (aC _ k 2 v2)).trans (aC _ k 3 v3)
theorem mV {W:qw}{t:TypeId}(h:Blk W k #[z0,z1,z2,z3] t)(v0 v1 v2 v3:Value):Blk (st4 W k v0 v1 v2 v3) k #[v0,v1,v2,v3] t:=by
 have k:=(((h.set 0 v0).set 1 v1).set 2 v2).set 3 v3;have e:(((#[z0,z1,z2,z3].setIfInBounds 0 v0).setIfInBounds 1 v1).setIfInBounds 2 v2).setIfInBounds 3 v3=#[v0,v1,v2,v3]:=by simp
 rw [e] at k;exact k
theorem Blk.cfr {W:qw}{v0 v1 v2 v3:Value}{t:TypeId}(h:Blk W g #[v0,v1,v2,v3] t):(W.cell? (qR g 0)=some v0/\W.cell? (qR g 1)=some v1/\W.cell? (qR g 2)=some v2/\W.cell? (qR g 3)=some v3)/\W.frozen? (qR g 0)=false/\W.frozen? (qR g 1)=false/\W.frozen? (qR g 2)=false/\W.frozen? (qR g 3)=false:=
 ⟨⟨h.cell 0,h.cell 1,h.cell 2,h.cell 3⟩,h.frozen 0,h.frozen 1,h.frozen 2,h.frozen 3⟩
def CfP (w:qw)(r:Nat)(a:qO)(n c:Nat)(zs:qi)(e:Ending)(w':qw):Prop:=∃ (x1 x2 x3 x4:Int) (k':Nat),((-2000<=x1/\x1<=2000)/\(-2000<=x2/\x2<=2000)/\(-2000<=x3/\x3<=2000)/\-2000<=x4/\x4<=2000)/\e=.returned (.agg (qW x1 x2 x3 x4))/\Dst w w' r a n c zs k'
theorem aM1 {W:qw}(k1:Blk W q #[z0,z1,z2,z3] 25)(v0 v1 v2 v3:Value)(Q:Ending->World->Prop)(tmps:Array Value)(h4:tmps[2]?=some (.pointer (qP q)))(hQ:Q (.returned (.agg #[v0,v1,v2,v3])) (st4 W q v0 v1 v2 v3)):
 bodyPost prog f11 Q Exit.ret ⟨tmps,[]⟩ (st4 W q v0 v1 v2 v3):=by
 obtain ⟨⟨t0,t1,t2,t3⟩,_⟩:=(mV k1 v0 v1 v2 v3).cfr;refine bodyPost_ret_by (v:=.agg #[v0,v1,v2,v3]) ?_ rfl hQ;simp [results,results11,go_sem,h4,t0,t1,t2,t3]
theorem zA {W:qw}(k1:Blk W q #[z0,z1,z2,z3] 25)(v0 v1 v2 v3:Value)(Q:Ending->World->Prop)(tmps:Array Value)(h4:tmps[4]?=some (.pointer (qP q)))(hQ:Q (.returned (.agg #[v0,v1,v2,v3])) (st4 W q v0 v1 v2 v3)):
 bodyPost prog f13 Q Exit.ret ⟨tmps,[]⟩ (st4 W q v0 v1 v2 v3):=by
 obtain ⟨⟨t0,t1,t2,t3⟩,_⟩:=(mV k1 v0 v1 v2 v3).cfr;refine bodyPost_ret_by (v:=.agg #[v0,v1,v2,v3]) ?_ rfl hQ;simp [results,results13,go_sem,h4,t0,t1,t2,t3]
theorem Dst.st4 {w W:qw}{r:Nat}{a:qO}{n c:Nat}{zs:qi}(h:Dst w W r a n c zs k)(hg:w.heap.size<=g)(v0 v1 v2 v3:Value):Dst w (st4 W g v0 v1 v2 v3) r a n c zs k:=h.grow ((gL W g v0 v1 v2 v3).mono (fun j hj=>by subst hj;exact hg))
theorem oM (x:Int)(h0:-4611686018427387904<=x)(h1:x<=4611686018427387903):IntKind.i64.wrap x=x:=by
 unfold IntKind.wrap;simp [IntKind.bits,IntKind.signed];omega
theorem aAv (zs:qi)(hz:∀ j,0<=zs.getD j 0/\zs.getD j 0<=255)(k:Nat)(w:qw)(r:Nat)(a:qO)(n c:Nat)(h:Dst w w r a n c zs k):
 qC 11 #[.pointer (qP r)] w (CfP w r a n c zs):=by
 obtain ⟨K,E1,z0,z1⟩:=aR hz k;have D0:=h.bw (aU w (.cells (qW 0 0 0 0) 25));have R0:Blk _ w.heap.size (qW 0 0 0 0) 25:=Blk.new w (qW 0 0 0 0) 25;have hlt:=h.lt;have d3:IntKind.i64.wrap (K.tdiv 3)=K/3:=by rw [Int.tdiv_eq_ediv_of_nonneg z0,oM _ (by omega) (by omega)]
 have d8:IntKind.i64.wrap (K.tdiv 8)=K/8:=by rw [Int.tdiv_eq_ediv_of_nonneg z0,oM _ (by omega) (by omega)]
 have d32:IntKind.i64.wrap (K.tdiv 32)=K/32:=by rw [Int.tdiv_eq_ediv_of_nonneg z0,oM _ (by omega) (by omega)]
 have m3:K.tmod 3=K%3:=xL z0;have m2:(K/3).tmod 2=K/3%2:=xL (by omega);have m4:(K/8).tmod 4=K/8%4:=xL (by omega);have y1:IntKind.i64.wrap (K/3%2*24)=K/3%2*24:=oM _ (by omega) (by omega);have y2:IntKind.i64.wrap (64-K/3%2*24)=64-K/3%2*24:=oM _ (by omega) (by omega);have y3:IntKind.i64.wrap (1+K/8%4)=1+K/8%4:=oM _ (by omega) (by omega);have y4:IntKind.i64.wrap (32*(1+K/8%4))=32*(1+K/8%4):=oM _ (by omega) (by omega);have y5:IntKind.i64.wrap (K/32*3)=K/32*3:=oM _ (by omega) (by omega);have y6:IntKind.i64.wrap (3+K/32*3)=3+K/32*3:=oM _ (by omega) (by omega);clear h;go_enter func11,ntmps11
 go_wp2_with fail
 refine (D0.next K E1).mono ?_;rintro e w1 ⟨rfl,D1,t1⟩;have R1:=aA t1 R0 (by omega);obtain ⟨⟨r0,r1,r2,r3⟩,s0,s1,s2,s3⟩:=R1.cfr;have HD:=zh (xA D1 R1);clear D0 R0 t1 E1 D1 R1;go_wp2;refine aM1 HD.o.2 _ _ _ _ _ _ rfl ?_;exact ⟨_,_,_,_,_,by omega,rfl,HD.o.1.st4 aL _ _ _ _⟩
theorem nF (zs:qi)(hz:∀ j,0<=zs.getD j 0/\zs.getD j 0<=255)(k:Nat)(w:qw)(r:Nat)(a:qO)(n c:Nat)(h:Dst w w r a n c zs k)(x1 x2 x3 x4:Int)(hx:(-2000<=x1/\x1<=2000)/\(-2000<=x2/\x2<=2000)/\(-2000<=x3/\x3<=2000)/\-2000<=x4/\x4<=2000):
 qC 13 #[.pointer (qP r),.agg (qW x1 x2 x3 x4)] w (CfP w r a n c zs):=by
 obtain ⟨K,E1,z0,z1⟩:=aR hz k;have hlt:=h.lt;have b1:=aU w (.cells (qW x1 x2 x3 x4) 25);have b2:=aU (w.alloc (.cells (qW x1 x2 x3 x4) 25)) (.cells (qW 0 0 0 0) 25);have D0:=(h.bw b1).bw b2;have B0:=(Blk.new w (qW x1 x2 x3 x4) 25).bw b2;have R0:=Blk.new (w.alloc (.cells (qW x1 x2 x3 x4) 25)) (qW 0 0 0 0) 25;try unfold qY at *
 simp only [xF] at R0;have d4:IntKind.i64.wrap (K.tdiv 4)=K/4:=by rw [Int.tdiv_eq_ediv_of_nonneg z0,oM _ (by omega) (by omega)]
 have m4:K.tmod 4=K%4:=xL z0;obtain ⟨J,hJ⟩:=eqx (K%4);obtain ⟨V,hV⟩:=eqx (K/4);rw [<- hJ] at m4;rw [<- hV] at d4;have v0:0<=V:=by omega
 have m3:V.tmod 3=V%3:=xL v0;have m5:V.tmod 5=V%5:=xL v0;have m4':V.tmod 4=V%4:=xL v0;clear h b1 b2;go_enter func13,ntmps13
 go_wp2_with fail
 refine (D0.next K E1).mono ?_;rintro e w1 ⟨rfl,D1,t1⟩;have B1:=aA t1 B0 (by omega);have R1:=aA t1 R0 (by omega);clear D0 R0 B0 t1 E1;have hJ4:J=0\/J=1\/J=2\/J=3:=by omega
 have hs1:=D1.sz;clear hJ hV z0 z1;rcases hJ4 with rfl|rfl|rfl|rfl
 .have hv:V%3=0\/V%3=1\/V%3=2:=by omega
  have b3:=aU w1 (.cells (qT (-1) 4 5) 3);have D2:=D1.bw b3;have B2:=B1.bw b3;have R2:=R1.bw b3;obtain ⟨⟨r0,r1,r2,r3⟩,s0,s1,s2,s3⟩:=R2.cfr;obtain ⟨⟨p0,p1,p2,p3⟩,q0,q1,q2,q3⟩:=B2.cfr;have HD:=zh (xA D2 R2);clear D1 D2 B1 B2 R1 R2 b3
  rcases hv with hv|hv|hv<;>rw [hv] at m3<;>(
   go_wp2;refine zA (aA (aC _ w.heap.size 0 _) HD.o.2 (by omega)) _ _ _ _ _ _ rfl ?_
   exact ⟨_,_,_,_,_,by omega,rfl,(HD.o.1.set aL _ _).st4 (by omega) _ _ _ _⟩)
 .have hv:V%5=0\/V%5=1\/V%5=2\/V%5=3\/V%5=4:=by omega
  have b3:=aU w1 (.cells #[qI 0,qI 1,qI 64,qI 65,qI 7] 3);have D2:=D1.bw b3;have B2:=B1.bw b3;have R2:=R1.bw b3;obtain ⟨⟨r0,r1,r2,r3⟩,s0,s1,s2,s3⟩:=R2.cfr;obtain ⟨⟨p0,p1,p2,p3⟩,q0,q1,q2,q3⟩:=B2.cfr;have HD:=zh (xA D2 R2);clear D1 D2 B1 B2 R1 R2 b3
  rcases hv with hv|hv|hv|hv|hv<;>rw [hv] at m5<;>(
   go_wp2;refine zA (aA (aC _ w.heap.size 1 _) HD.o.2 (by omega)) _ _ _ _ _ _ rfl ?_
   exact ⟨_,_,_,_,_,by omega,rfl,(HD.o.1.set aL _ _).st4 (by omega) _ _ _ _⟩)
 .have hv:V%5=0\/V%5=1\/V%5=2\/V%5=3\/V%5=4:=by omega
  have b3:=aU w1 (.cells #[qI (-32),qI 0,qI 1024,qI 1056,qI 31] 3);have D2:=D1.bw b3;have B2:=B1.bw b3;have R2:=R1.bw b3;obtain ⟨⟨r0,r1,r2,r3⟩,s0,s1,s2,s3⟩:=R2.cfr;obtain ⟨⟨p0,p1,p2,p3⟩,q0,q1,q2,q3⟩:=B2.cfr;have HD:=zh (xA D2 R2);clear D1 D2 B1 B2 R1 R2 b3
  rcases hv with hv|hv|hv|hv|hv<;>rw [hv] at m5<;>(
   go_wp2;refine zA (aA (aC _ w.heap.size 2 _) HD.o.2 (by omega)) _ _ _ _ _ _ rfl ?_
   exact ⟨_,_,_,_,_,by omega,rfl,(HD.o.1.set aL _ _).st4 (by omega) _ _ _ _⟩)
 .have hv:V%4=0\/V%4=1\/V%4=2\/V%4=3:=by omega
  have b3:=aU w1 (.cells (qW (-1) 0 100 101) 3);have D2:=D1.bw b3;have B2:=B1.bw b3;have R2:=R1.bw b3;obtain ⟨⟨r0,r1,r2,r3⟩,s0,s1,s2,s3⟩:=R2.cfr;obtain ⟨⟨p0,p1,p2,p3⟩,q0,q1,q2,q3⟩:=B2.cfr;have HD:=zh (xA D2 R2);clear D1 D2 B1 B2 R1 R2 b3
  rcases hv with hv|hv|hv|hv<;>rw [hv] at m4'<;>(
   go_wp2;refine zA (aA (aC _ w.heap.size 3 _) HD.o.2 (by omega)) _ _ _ _ _ _ rfl ?_
   exact ⟨_,_,_,_,_,by omega,rfl,(HD.o.1.set aL _ _).st4 (by omega) _ _ _ _⟩)
