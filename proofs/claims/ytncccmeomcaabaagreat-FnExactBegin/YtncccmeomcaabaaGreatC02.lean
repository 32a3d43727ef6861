import Derived.Maps.OwnSet
import Derived.Defers
import Derived.Recover
import Derived.Test.YtncccmeomcaabaaGreatC01
set_option linter.all false
set_option maxHeartbeats 4000000
namespace Go.Proofs.YtncccmeomcaabaaGreat
open Go.RowKit
set_option maxRecDepth 100000
variable {R S:World->Prop}{arg cs:Array Value}{c g:Nat}
theorem bR (c:Nat)(w:qw)(r i:Nat)(v:Value)(h:r<=c:=by omega):Turn (fun j=>j<=c) w (w.setCell (qR r i) v):=⟨rfl,rfl,rfl,by rw [aL];exact aN,fun j hj hn=>heap_setCell_other _ _ _ _ (fun e=>hn (by dsimp only at e;omega))⟩
def Stab (c:Nat)(R:World->Prop):Prop:=∀ W W',Turn (fun j=>j<=c) W W'->R W->R W'
theorem sD {zs:qi}(h:c<g):Stab c (fun W=>RowI W g zs):=fun W W' t r=>aF t r (by show ¬ g<=c;omega)
theorem sE {zs:qi}(h:c<g):Stab c (fun W=>Row8 W g zs):=fun W W' t r=>aF t r (by show ¬ g<=c;omega)
theorem aJj {zs:List ByteArray}(h:c<g):Stab c (fun W=>RowT W g zs):=fun W W' t r=>aF t r (by show ¬ g<=c;omega)
theorem aO8 {n:Nat}{bl:List Bk}(h:c<g):Stab c (fun W=>∃ gs,gs.length=n/\RowB W g n gs bl):=fun W W' t r=>by
 obtain ⟨gs,h1,⟨cur,h2,h3⟩,h4,h5⟩:=r;exact ⟨gs,h1,⟨cur,aF t h2 (by show ¬ g<=c;omega),h3⟩,fun i hi=>⟨aF t (h4 i hi).1 (by show ¬ gs.getD i 0<=c;have:=(h4 i hi).2;omega),(h4 i hi).2⟩,h5⟩
theorem aJi {es:List Ex}(h:c<g):Stab c (fun W=>RowX W g es):=fun W W' t r=>by
 obtain ⟨⟨cur,h2,h3⟩,h4⟩:=r;have e:W'.heap[g]?=W.heap[g]?:=t.block g h2.lt (by show ¬ g<=c;omega);have key:∀ o,W'.cell? (qR g o)=W.cell? (qR g o):=fun o=>World.cell?_of_block (w:=W) e;refine ⟨⟨cur,aF t h2 (by show ¬ g<=c;omega),h3⟩,fun i hi=>?_⟩;obtain ⟨y1,y2,y3⟩:=h4 i hi;exact ⟨(key _).trans y1,(key _).trans y2,(key _).trans y3⟩
theorem Stab.and (h:Stab c R)(k:Stab c S):Stab c (fun W=>R W/\S W):=fun W W' t r=>⟨h W W' t r.1,k W W' t r.2⟩
structure TM (w W:qw)(arg cs:Array Value)(R:World->Prop):Prop where
 kb:Blk W w.heap.size arg 118
 kr:Blk W (w.heap.size+1) #[.string ⟨#[]⟩,qS none 0 0,qS none 0 0,qS none 0 0,qI 0,qS none 0 0,qS none 0 0,qS none 0 0] 138
 ko:Blk W (w.heap.size+1+1) cs 138
 hB:qY w W
 rows:R W
 st:Stab (w.heap.size+1+1) R
theorem TM.bw {w W W':qw}(h:TM w W arg cs R)(hb:qY W W'):TM w W' arg cs R:=
 ⟨h.kb.bw hb,h.kr.bw hb,h.ko.bw hb,h.hB.trans (hb.mono h.hB.size),h.st _ _ (aJ hb) h.rows,h.st⟩
theorem TM.set {w W:qw}(h:TM w W arg cs R)(i:Nat)(v:Value):TM w (W.setCell (qR (w.heap.size+1+1) i) v) arg (cs.setIfInBounds i v) R:=
 ⟨h.kb.other _ _ (by dsimp only;omega),h.kr.other _ _ (by dsimp only;omega),h.ko.set i v,h.hB.setCell (by dsimp only;omega) _,h.st _ _ (bR _ _ _ _ _ aN) h.rows,h.st⟩
theorem TM.add {w W:qw}(h:TM w W arg cs R)(r:S W)(s:Stab (w.heap.size+1+1) S):TM w W arg cs (fun W=>R W/\S W):=
 ⟨h.kb,h.kr,h.ko,h.hB,⟨h.rows,r⟩,h.st.and s⟩
theorem zU (f:Nat->Nat)(n i:Nat)(hi:i<n):f i<=upS f n:=by
 have h1:=eX f (i+1) n (by omega);have h2:upS f (i+1)=upS f i+f i:=rfl;omega
def ToM (w:qw)(nm:ByteArray)(ta:qO)(tn tc:Nat)(tz:qi)(ba:qO)(bn bc:Nat)(bl:List Bk)(da:qO)(dn dc:Nat)(dz:qi)(bss:Int)(ra:qO)(rn rc:Nat)(rz:qi)(ia:qO)(im ic:Nat)(ss:List ByteArray)(ea:qO)(en ec:Nat)(es:List Ex)(e:Ending)(w':qw):Prop:=
 ∃ g1 g2 g3 g5 g6 g7,e=.returned (.agg (qM nm (qP g1) tn tn (qP g2) bn bn (qP g3) dn dn bss (qP g5) rn rn (qP g6) im im (qP g7) en en)) /\
  w.heap.size<=g1/\g1<g2/\g2<g3/\g3<g5/\g5<g6/\g6<g7/\RowI w' g1 tz/\(∃ gs,gs.length=bn/\RowB w' g2 bn gs bl)/\Row8 w' g3 dz/\RowI w' g5 rz/\RowT w' g6 ss/\RowX w' g7 es/\qY w w'
theorem zX (nm:ByteArray)(ta:qO)(tn tc:Nat)(tz:qi)(ba:qO)(bn bc:Nat)(bl:List Bk)(da:qO)(dn dc:Nat)(dz:qi)(bss:Int)(ra:qO)(rn rc:Nat)(rz:qi)(ia:qO)(im ic:Nat)(ss:List ByteArray)(ea:qO)(en ec:Nat)(es:List Ex)(w:qw)(h:MT w nm ta tn tc tz ba bn bc bl da dn dc dz bss ra rn rc rz ia im ic ss ea en ec es)(hs:cT nm tn bn bl dn rn im ss en es<=1048576):
 qC 86 #[.agg (qM nm ta tn tc ba bn bc da dn dc bss ra rn rc ia im ic ea en ec)] w (ToM w nm ta tn tc tz ba bn bc bl da dn dc dz bss ra rn rc rz ia im ic ss ea en ec es):=by
 have HSB:=zh (show ∀ i,i<bn->(bl.getD i zB).2.1<=1048576 from fun i hi=>by
  have:=zU (fun j=>(bl.getD j zB).2.1) bn i hi;unfold cT at hs
  omega)
 obtain ⟨l1,l2,l3,l4,l5,l6⟩:tn<=1048576/\bn<=1048576/\dn<=1048576/\rn<=1048576/\im<=1048576/\en<=1048576:=by unfold cT at hs;omega
 have MX:=h;clear h hs
 have M0:TM w (((w.alloc (.cells (qM nm ta tn tc ba bn bc da dn dc bss ra rn rc ia im ic ea en ec) 118)).alloc (.cells #[.string ⟨#[]⟩,qS none 0 0,qS none 0 0,qS none 0 0,qI 0,qS none 0 0,qS none 0 0,qS none 0 0] 138)).alloc (.cells (qM nm none 0 0 none 0 0 none 0 0 0 none 0 0 none 0 0 none 0 0) 138)) (qM nm ta tn tc ba bn bc da dn dc bss ra rn rc ia im ic ea en ec) (qM nm none 0 0 none 0 0 none 0 0 0 none 0 0 none 0 0 none 0 0) (fun _=>True):=
  ⟨(
   (Blk.new w _ _).alloc _).alloc _,by have:=(Blk.new (w.alloc (.cells (qM nm ta tn tc ba bn bc da dn dc bss ra rn rc ia im ic ea en ec) 118)) #[.string ⟨#[]⟩,qS none 0 0,qS none 0 0,qS none 0 0,qI 0,qS none 0 0,qS none 0 0,qS none 0 0] 138).alloc (.cells (qM nm none 0 0 none 0 0 none 0 0 0 none 0 0 none 0 0 none 0 0) 138);simpa using this,by have:=Blk.new ((w.alloc (.cells (qM nm ta tn tc ba bn bc da dn dc bss ra rn rc ia im ic ea en ec) 118)).alloc (.cells #[.string ⟨#[]⟩,qS none 0 0,qS none 0 0,qS none 0 0,qI 0,qS none 0 0,qS none 0 0,qS none 0 0] 138)) (qM nm none 0 0 none 0 0 none 0 0 0 none 0 0 none 0 0 none 0 0) 138;simpa using this,
   (bal.alloc (by simp) _).alloc (by simp;omega) _,trivial,fun _ _ _ _=>trivial⟩
 go_enter Tryz.func86,Tryz.ntmps86
 go_wp2_with fail
 have hB:=M0.hB;refine (iY ta tn tc tz _ (MX.t.bw hB) (by omega)).mono ?_;rintro e w1 ⟨rfl,hr,hb⟩;have M1:=(M0.bw hb).add (S:=fun W=>RowI W _ tz) hr (sD (by have:=M0.ko.lt;simp at this ⊢<;>omega));have z1:=hb.size;have y1:w.heap.size+1+1+1<w1.heap.size:=by first|(have:=hr.lt;simpa using this)|(obtain ⟨gs,_,⟨cur,hk,_⟩,_⟩:=hr;have:=hk.lt;simpa using this)
 simp only [xF,aL] at M1 z1;clear hb hr hB M0;obtain ⟨q0,q1,q2,q3,q4,q5,q6,q7⟩:=M1.kb.eight;obtain ⟨o0,o1,o2,o3,o4,o5,o6,o7⟩:=M1.ko.eight;have ofz:=M1.ko.frozen;have nlt:=M1.ko.lt;go_wp2_with fail
 clear q0 q1 q2 q3 q4 q5 q6 q7 o0 o1 o2 o3 o4 o5 o6 o7 ofz nlt;replace M1:=M1.set 1 (qS (some (qR (w.heap.size+1+1+1) 0)) tn tn);simp only [yA,yB,yC] at M1;have hB:=M1.hB;refine (aCb ba bn bc bl _ (MX.b.bw hB) (by omega) HSB.o).mono ?_;rintro e w2 ⟨rfl,hr,hb⟩;have M2:=(M1.bw hb).add (S:=fun W=>∃ gs,gs.length=bn/\RowB W _ bn gs bl) hr (aO8 (by have:=M1.ko.lt;simp only [aL] at this ⊢;omega));have z2:=hb.size;have y2:w1.heap.size<w2.heap.size:=by first|(have:=hr.lt;simpa using this)|(obtain ⟨gs,_,⟨cur,hk,_⟩,_⟩:=hr;have:=hk.lt;simpa using this)
 simp only [xF,aL] at M2 z2;clear hb hr hB M1;obtain ⟨q0,q1,q2,q3,q4,q5,q6,q7⟩:=M2.kb.eight;obtain ⟨o0,o1,o2,o3,o4,o5,o6,o7⟩:=M2.ko.eight;have ofz:=M2.ko.frozen;have nlt:=M2.ko.lt;go_wp2_with fail
 clear q0 q1 q2 q3 q4 q5 q6 q7 o0 o1 o2 o3 o4 o5 o6 o7 ofz nlt;replace M2:=M2.set 2 (qS (qP w1.heap.size) bn bn);simp only [yA,yB,yC] at M2;have hB:=M2.hB;refine (gL da dn dc dz _ (MX.d.bw hB)).mono ?_;rintro e w3 ⟨rfl,hr,hb⟩;have M3:=(M2.bw hb).add (S:=fun W=>Row8 W _ dz) hr (sE (by have:=M2.ko.lt;simp only [aL] at this ⊢;omega));have z3:=hb.size;have y3:w2.heap.size<w3.heap.size:=by first|(have:=hr.lt;simpa using this)|(obtain ⟨gs,_,⟨cur,hk,_⟩,_⟩:=hr;have:=hk.lt;simpa using this)
 simp only [xF,aL] at M3 z3;clear hb hr hB M2;obtain ⟨q0,q1,q2,q3,q4,q5,q6,q7⟩:=M3.kb.eight;obtain ⟨o0,o1,o2,o3,o4,o5,o6,o7⟩:=M3.ko.eight;have ofz:=M3.ko.frozen;have nlt:=M3.ko.lt;go_wp2_with fail
 clear q0 q1 q2 q3 q4 q5 q6 q7 o0 o1 o2 o3 o4 o5 o6 o7 ofz nlt;replace M3:=M3.set 3 (qS (qP w2.heap.size) dn dn);replace M3:=M3.set 4 (qI bss);simp only [yA,yB,yC] at M3;have hB:=M3.hB;refine (iY ra rn rc rz _ (MX.r.bw hB) (by omega)).mono ?_;rintro e w4 ⟨rfl,hr,hb⟩;have M4:=(M3.bw hb).add (S:=fun W=>RowI W _ rz) hr (sD (by have:=M3.ko.lt;simp only [aL] at this ⊢;omega));have z4:=hb.size;have y4:w3.heap.size<w4.heap.size:=by first|(have:=hr.lt;simpa using this)|(obtain ⟨gs,_,⟨cur,hk,_⟩,_⟩:=hr;have:=hk.lt;simpa using this)
 simp only [xF,aL] at M4 z4;clear hb hr hB M3;obtain ⟨q0,q1,q2,q3,q4,q5,q6,q7⟩:=M4.kb.eight;obtain ⟨o0,o1,o2,o3,o4,o5,o6,o7⟩:=M4.ko.eight;have ofz:=M4.ko.frozen;have nlt:=M4.ko.lt;go_wp2_with fail
 clear q0 q1 q2 q3 q4 q5 q6 q7 o0 o1 o2 o3 o4 o5 o6 o7 ofz nlt;replace M4:=M4.set 5 (qS (qP w3.heap.size) rn rn);simp only [yA,yB,yC] at M4;have hB:=M4.hB;refine (vI ia im ic ss _ (MX.i.bw hB) (by omega)).mono ?_;rintro e w5 ⟨rfl,hr,hb⟩;have M5:=(M4.bw hb).add (S:=fun W=>RowT W _ ss) hr (aJj (by have:=M4.ko.lt;simp only [aL] at this ⊢;omega));have z5:=hb.size;have y5:w4.heap.size<w5.heap.size:=by first|(have:=hr.lt;simpa using this)|(obtain ⟨gs,_,⟨cur,hk,_⟩,_⟩:=hr;have:=hk.lt;simpa using this)
 simp only [xF,aL] at M5 z5;clear hb hr hB M4;obtain ⟨q0,q1,q2,q3,q4,q5,q6,q7⟩:=M5.kb.eight;obtain ⟨o0,o1,o2,o3,o4,o5,o6,o7⟩:=M5.ko.eight;have ofz:=M5.ko.frozen;have nlt:=M5.ko.lt;go_wp2_with fail
 clear q0 q1 q2 q3 q4 q5 q6 q7 o0 o1 o2 o3 o4 o5 o6 o7 ofz nlt;replace M5:=M5.set 6 (qS (qP w4.heap.size) im im);simp only [yA,yB,yC] at M5;have hB:=M5.hB;refine (vL ea en ec es _ (MX.e.bw hB) (by omega)).mono ?_;rintro e w6 ⟨rfl,hr,hb⟩;have M6:=(M5.bw hb).add (S:=fun W=>RowX W _ es) hr (aJi (by have:=M5.ko.lt;simp only [aL] at this ⊢;omega));have z6:=hb.size;have y6:w5.heap.size<w6.heap.size:=by first|(have:=hr.lt;simpa using this)|(obtain ⟨gs,_,⟨cur,hk,_⟩,_⟩:=hr;have:=hk.lt;simpa using this)
 simp only [xF,aL] at M6 z6;clear hb hr hB M5;have M7:=M6.set 7 (qS (qP w5.heap.size) en en);simp only [yA,yB,yC] at M7;obtain ⟨WF,hWF⟩:∃ X,X=(((((((((w6.setCell ⟨w.heap.size+1+1,7,none⟩ (qS (qP w5.heap.size) en en)).setCell ⟨w.heap.size+1,0,none⟩ (.string nm)).setCell ⟨w.heap.size+1,1,none⟩ (qS (some ⟨w.heap.size+1+1+1,0,none⟩) tn tn)).setCell ⟨w.heap.size+1,2,none⟩ (qS (qP w1.heap.size) bn bn)).setCell ⟨w.heap.size+1,3,none⟩ (qS (qP w2.heap.size) dn dn)).setCell ⟨w.heap.size+1,4,none⟩ (qI bss)).setCell ⟨w.heap.size+1,5,none⟩ (qS (qP w3.heap.size) rn rn)).setCell ⟨w.heap.size+1,6,none⟩ (qS (qP w4.heap.size) im im)).setCell ⟨w.heap.size+1,7,none⟩ (qS (qP w5.heap.size) en en)):=⟨_,rfl⟩
 have kF:Blk WF (w.heap.size+1) (qM nm (some (qR (w.heap.size+1+1+1) 0)) tn tn (qP w1.heap.size) bn bn (qP w2.heap.size) dn dn bss (qP w3.heap.size) rn rn (qP w4.heap.size) im im (qP w5.heap.size) en en) 138:=by
  have:=((((((((M7.kr.set 0 (.string nm)).set 1 (qS (some (qR (w.heap.size+1+1+1) 0)) tn tn)).set 2 (qS (qP w1.heap.size) bn bn)).set 3 (qS (qP w2.heap.size) dn dn)).set 4 (qI bss)).set 5 (qS (qP w3.heap.size) rn rn)).set 6 (qS (qP w4.heap.size) im im)).set 7 (qS (qP w5.heap.size) en en));simp only [yA,yB,yC] at this;rw [hWF];exact this
 have tF:Turn (fun j=>j<=w.heap.size+1+1) (w6.setCell (qR (w.heap.size+1+1) 7) (qS (qP w5.heap.size) en en)) WF:=by
  rw [hWF];exact ((((((((Turn.refl (fun j=>j<=w.heap.size+1+1) (w6.setCell (qR (w.heap.size+1+1) 7) (qS (qP w5.heap.size) en en))).trans (bR _ _ (w.heap.size+1) 0 (.string nm))).trans (bR _ _ (w.heap.size+1) 1 (qS (some (qR (w.heap.size+1+1+1) 0)) tn tn))).trans (bR _ _ (w.heap.size+1) 2 (qS (qP w1.heap.size) bn bn))).trans (bR _ _ (w.heap.size+1) 3 (qS (qP w2.heap.size) dn dn))).trans (bR _ _ (w.heap.size+1) 4 (qI bss))).trans (bR _ _ (w.heap.size+1) 5 (qS (qP w3.heap.size) rn rn))).trans (bR _ _ (w.heap.size+1) 6 (qS (qP w4.heap.size) im im))).trans (bR _ _ (w.heap.size+1) 7 (qS (qP w5.heap.size) en en))
 have rF:=M7.st _ _ tF M7.rows
 have bF:qY w WF:=by
  rw [hWF];exact ((((((((M7.hB.setCell (p:=(qR (w.heap.size+1) 0)) (by dsimp only;omega) (.string nm)).setCell (p:=(qR (w.heap.size+1) 1)) (by dsimp only;omega) (qS (some (qR (w.heap.size+1+1+1) 0)) tn tn)).setCell (p:=(qR (w.heap.size+1) 2)) (by dsimp only;omega) (qS (qP w1.heap.size) bn bn)).setCell (p:=(qR (w.heap.size+1) 3)) (by dsimp only;omega) (qS (qP w2.heap.size) dn dn)).setCell (p:=(qR (w.heap.size+1) 4)) (by dsimp only;omega) (qI bss)).setCell (p:=(qR (w.heap.size+1) 5)) (by dsimp only;omega) (qS (qP w3.heap.size) rn rn)).setCell (p:=(qR (w.heap.size+1) 6)) (by dsimp only;omega) (qS (qP w4.heap.size) im im)).setCell (p:=(qR (w.heap.size+1) 7)) (by dsimp only;omega) (qS (qP w5.heap.size) en en))
 have HF:=zh hWF;have HRF:=zh (xA rF bF);clear hWF tF rF bF M7;obtain ⟨o0,o1,o2,o3,o4,o5,o6,o7⟩:=M6.ko.eight;have ofz:=M6.ko.frozen;obtain ⟨p0,p1,p2,p3,p4,p5,p6,p7⟩:=M6.kr.eight;have pfz:=M6.kr.frozen;obtain ⟨s0,s1,s2,s3,s4,s5,s6,s7⟩:=kF.eight;have nlt:=M6.ko.lt;go_wp2_with fail
 rw [<- HF.o];clear o0 o1 o2 o3 o4 o5 o6 o7 ofz p0 p1 p2 p3 p4 p5 p6 p7 pfz;refine bodyPost_ret (v:=.agg (qM nm (some (qR (w.heap.size+1+1+1) 0)) tn tn (qP w1.heap.size) bn bn (qP w2.heap.size) dn dn bss (qP w3.heap.size) rn rn (qP w4.heap.size) im im (qP w5.heap.size) en en)) (by simp [results,Tryz.results86,go_sem,s0,s1,s2,s3,s4,s5,s6,s7]) rfl ?_;obtain ⟨⟨⟨⟨⟨⟨⟨_,r1⟩,r2⟩,r3⟩,r5⟩,r6⟩,r7⟩,hB⟩:=HRF.o;exact ⟨w.heap.size+1+1+1,w1.heap.size,w2.heap.size,w3.heap.size,w4.heap.size,w5.heap.size,rfl,by omega,by omega,by omega,by omega,by omega,by omega,r1,r2,r3,r5,r6,r7,hB⟩
end Go.Proofs.YtncccmeomcaabaaGreat
namespace Go.Proofs.YtncccmeomcaabaaGreat
open Go Go.Maps Go.WideShapes
def fd (f:Nat->List UInt8):Nat->DataW Unit
 | 0=>.map []
 | k+1=>if has (fd f k) (.string (f k)) then fd f k else (fd f k).put (.string (f k)) (.lit (.int .i64 k))
theorem jN (f:Nat->List UInt8)(k:Nat):fd f (k+1)=if has (fd f k) (.string (f k)) then fd f k else (fd f k).put (.string (f k)) (.lit (.int .i64 k)):=rfl
theorem aBh (s:List UInt8):WideAt.IsKeyLit (.string s):=by simp [WideAt.IsKeyLit]
theorem lT (f:Nat->List UInt8):∀ k,Tidy (fd f k)
 | 0=>tidy_empty
 | k+1=>by
   rw [jN];split
   .exact lT f k
   .exact (lT f k).put (aBh _) _
theorem aBp (f:Nat->List UInt8)(s:List UInt8):∀ k,has (fd f k) (.string s)=(List.range k).any (fun j=>f j==s)
 | 0=>rfl
 | k+1=>by
   rw [List.range_succ,List.any_append,<- aBp f s k];rw [jN];by_cases e:f k=s
   .subst e;split
    .rename_i h;rw [h];rfl
    .rw [has_put_same (lT f k).isMap (aBh _)];simp
   .have e':(Lit.string s)≠.string (f k):=by intro h;injection h with h;exact e h.symm
    split
    .simp [e]
    .rw [has_put_other e'];simp [e]
theorem mX (f:Nat->List UInt8):∀ k,size (fd f k)<=k
 | 0=>aN
 | k+1=>by
   have:=mX f k;rw [jN];split
   .omega
   .rename_i h;rw [size_put (lT f k),if_neg h];omega
theorem aBo (f:Nat->List UInt8):∀ k,decide (size (fd f k)=k)=(List.range k).all (fun i=>(List.range i).all fun j=>!(f j==f i))
 | 0=>rfl
 | k+1=>by
   have h1:=mX f k;rw [List.range_succ,List.all_append,<- aBo f k];have hh:=aBp f (f k) k;have e:(List.range k).all (fun j=>!(f j==f k))=!(has (fd f k) (.string (f k))):=by rw [hh];induction List.range k with|nil=>rfl|cons a l ih=>simp [ih]
   simp only [List.all_cons,List.all_nil,Bool.and_true,e];rw [jN];cases hb:has (fd f k) (.string (f k))
   .rw [if_neg (by simp),size_put (lT f k),hb,if_neg (by simp)];simp
   .rw [if_pos rfl];simp;omega
def fst? (f:Nat->List UInt8) (s:List UInt8):Nat->Option Nat
 | 0=>none
 | k+1=>match fst? f s k with|some j=>some j|none=>if f k=s then some k else none
theorem fH (f:Nat->List UInt8)(s:List UInt8)(k:Nat):fst? f s (k+1)=match fst? f s k with|some j=>some j|none=>if f k=s then some k else none:=rfl
theorem nS (f:Nat->List UInt8)(s:List UInt8):∀ k,(fst? f s k).isSome=has (fd f k) (.string s)
 | 0=>rfl
 | k+1=>by
   rw [aBp,List.range_succ,List.any_append,<- aBp,<- nS f s k];rw [fH];cases fst? f s k with
   | some j=>simp
   | none=>by_cases e:f k=s<;>simp [e]
theorem aLq (f:Nat->List UInt8)(s:List UInt8)(z:DataW Unit):∀ k,(fd f k).atKey (.string s) z=match fst? f s k with|some j=>.lit (.int .i64 j)|none=>z
 | 0=>rfl
 | k+1=>by
   have ih:=aLq f s z k;have hh:=nS f s k;rw [fH,jN];by_cases e:f k=s
   .subst e;cases hf:fst? f (f k) k with
    | some j=>rw [hf] at hh ih;simp only [Option.isSome_some] at hh;rw [if_pos hh.symm];simpa using ih
    | none=>rw [hf] at hh;simp only [Option.isSome_none] at hh;rw [if_neg (by rw [<- hh];simp),atKey_put_same (lT f k).isMap (aBh _)];simp
   .have e':(Lit.string s)≠.string (f k):=by intro h;injection h with h;exact e h.symm
    split<;>(cases hf:fst? f s k with
     | some j=>rw [hf] at ih;simpa [atKey_put_other e'] using ih
     | none=>rw [hf] at ih;simpa [atKey_put_other e',e] using ih)
end Go.Proofs.YtncccmeomcaabaaGreat
namespace Go.Proofs.YtncccmeomcaabaaGreat
open Go.RowKit Go.Maps
set_option maxRecDepth 100000
variable {E es xs:List Ex}{I ss:List ByteArray}{S:Nat->Prop}{X:Nat->List Int}{a a2 ba da ea ia ra ta:qO}{b base base' bc bn c cap dc dn ec en g ic im k n o rc rn sz tc tn:Nat}{bl:List Bk}{bss:Int}{cs:Array Value}{f:Nat->qO×Nat×Nat}{nm:ByteArray}{row:Option Nat}{v v1 v3 v5 v6 v7:Value}
theorem wF:Keyed Tryz.prog 9:=string_keyed Tryz.underlying9
theorem pN (w:qw):(zeroValue 3).run Tryz.prog w=.ok (qI 0) w:=by kernel_rfl
theorem uL (s:ByteArray)(b i:Int)(w:qw):
 qC 125 #[.agg #[.string s,qI b,qI i]] w (qB w (.string s)):=by
 go_enter Tryz.func125,Tryz.ntmps125
 go_wp2;go_ret;exact ⟨rfl,bal⟩
theorem iE (x:Int)(w:qw):(Instr.makeMap 176 (some (qI x))).run Tryz.prog w=.ok (.map (some w.heap.size)) (w.alloc (.map #[] 0)):=by
 simp [Instr.makeMap,asInt,asIntOf,run_underlying Tryz.underlying176,Result.andThen]
def fO (es:List Ex)(i:Nat):List UInt8:=(es.getD i zE).1.data.toList
theorem nU (ea:qO)(n ec:Nat)(es:List Ex)(w:qw)(h:ES w ea n ec es)(hn:n<=1048576):
 qC 124 #[qS ea n ec,.func (.func 125) #[] #[]] w fun e w'=>e=.returned (.map (some w.heap.size))/\w'.ownsMap Tryz.prog 9 (plainElem Tryz.prog 3) w.heap.size n (fd (fO es) n)/\qY w w':=by
 have hmm:=iE;have hm1:=h.2.1;unfold maxLen at hm1;go_enter Tryz.func124,Tryz.ntmps124
 go_wp2;go_loopw [16] (fun i wr=>∃ k:Nat,k<=n/\i=qI k/\wr.ownsMap Tryz.prog 9 (plainElem Tryz.prog 3) w.heap.size k (fd (fO es) k)/\qY w wr) (qf n)
 .exact ⟨0,xC _,rfl,World.ownsMap_made _ _ _ _,bal⟩
 .obtain ⟨k,hk,rfl,hown,hB⟩:=hrel;by_cases hlt:k<n
  .have hlt':(k:Int)<(n:Int):=by omega
   obtain ⟨bb,off,rfl⟩:=h.addr (by omega);obtain ⟨y1,y2,y3⟩:=(h.bw hB).at k hlt;have hsz:=h.size k;have HX:=zh (jN (fO es) k);have hkl:fO es k=(es.getD k zE).1.data.toList:=rfl;rw [hkl] at HX;clear hkl;generalize es.getD k zE=E at *;obtain ⟨en,eb,ei⟩:=E;dsimp only at y1 y2 y3 hsz HX;have hkey:keyOf Tryz.prog 9 (.string en)=some (.string en.data.toList):=Go.WideMaps.keyOf_string_mk Tryz.underlying9 (by unfold maxLen;omega);have HKEY:=zh hkey;clear hkey;have hA:qY wr (wr.alloc (.cells #[.string en,qI eb,qI ei] 163)):=bal;go_wp2_with fail
   refine (uL en eb ei _).mono ?_;rintro e w1 ⟨rfl,hb1⟩;have hb1':=hA.trans (hb1.mono hA.size);have hB1:=hB.trans (hb1'.mono hB.size)
   have hown1:w1.ownsMap Tryz.prog 9 (plainElem Tryz.prog 3) w.heap.size k (fd (fO es) k):=by
    obtain ⟨es',cl,hh,r⟩:=hown;refine ⟨es',cl,?_,r⟩
    have hl:w.heap.size<wr.heap.size:=by
     rcases Nat.lt_or_ge w.heap.size wr.heap.size with h'|h'
     .exact h'
     .rw [Array.getElem?_eq_none h'] at hh;cases hh
    rw [hb1'.block _ hl];exact hh
   clear hown hA hb1 hb1' y1 y2 y3;cases hh:has (fd (fO es) k) (.string en.data.toList)
   .rw [hh] at HX
    go_wp2_with (first
     | (at_lookup;refine wpList_lookup_own_ok_int _ rfl _ _ 176 rfl 9 3 .i64 wF Tryz.underlying176 Tryz.underlying3 (pN _) w.heap.size k _ rfl hown1 _ _ rfl HKEY.o ?_;intro c hat hwc;clear hat;rw [hh])
     | (at_mapUpdate;refine wpList_mapUpdate_own _ rfl _ _ _ 176 rfl 9 3 wF Tryz.underlying176 _ w.heap.size k _ rfl hown1 (by unfold maxLen;omega) _ _ _ rfl rfl HKEY.o _ [] (plainElem_int Tryz.underlying3 (WalkArith.wf_i64 (by omega))) ?_;intro w2 hown2 hgr2))
    have HO:=zh hown2;have HB2:=zh (hB1.grown hgr2 hB1.size (fun j hj=>by cases hj;exact aN));clear hown2 hgr2 hown1;go_wp2
    go_roundw
    .exact ⟨k+1,by omega,by go_num,by have:=HO.o;rw [HX.o,if_neg (by simp)];exact this,HB2.o⟩
    .simp [qf,intOf];omega
   .rw [hh] at HX
    go_wp2_with (first
     | (at_lookup;refine wpList_lookup_own_ok_int _ rfl _ _ 176 rfl 9 3 .i64 wF Tryz.underlying176 Tryz.underlying3 (pN _) w.heap.size k _ rfl hown1 _ _ rfl HKEY.o ?_;intro c hat hwc;clear hat;rw [hh]))
    have HO:=zh hown1;clear hown1;go_wp2
    go_roundw
    .exact ⟨k+1,by omega,by go_num,by have:=HO.o;rw [HX.o,if_pos trivial];exact this.mono (by omega),hB1⟩
    .simp [qf,intOf];omega
  .have e:Zh (k=n):=by show k=n;omega
   go_wp2;go_ret;exact ⟨rfl,by rw [e.o] at hown;exact hown,hB⟩
theorem aLs (es:List Ex)(n:Nat):(List.range n).all (exn es)=decide (size (fd (fO es) n)=n):=by
 rw [aBo];congr 1;funext i;unfold exn fO;congr 1;funext j;rw [ByteArray.toList_eq,ByteArray.toList_eq]
theorem aLr (tn bn:Nat)(bl:List Bk)(n:Nat)(es:List Ex)(h:∀ j,j<n->ex1 tn bn bl (es.getD j zE)=true):(List.range n).all (fun i=>ex1 tn bn bl (es.getD i zE)&&exn es i)=decide (size (fd (fO es) n)=n):=by
 rw [<- aLs,xJ,List.all_eq_true,List.all_eq_true];constructor
 .intro H i hi;have:=H i hi;simp only [Bool.and_eq_true] at this;exact this.2
 .intro H i hi;rw [h i (by simpa using hi),H i hi];rfl
theorem wQ (nm:ByteArray)(ta:qO)(tn tc:Nat)(ba:qO)(bn bc:Nat)(bl:List Bk)(v3 v5 v6:Value)(bss:Int)(ea:qO)(n ec:Nat)(es:List Ex)(w:qw)(htn:tn<=maxLen)(hb:BKS w ba bn bc bl)(h:ES w ea n ec es):
 qC 230 #[.agg #[.string nm,qS ta tn tc,qS ba bn bc,v3,qI bss,v5,v6,qS ea n ec]] w (qB w (.bool (exo tn bn bl n es))):=by
 obtain ⟨W,hW,hB0,kb⟩:=nwb w #[.string nm,qS ta tn tc,qS ba bn bc,v3,qI bss,v5,v6,qS ea n ec] 138;obtain ⟨q0,q1,q2,q3,q4,q5,q6,q7⟩:=kb.eight;obtain ⟨r,hr⟩:=eqx (exo tn bn bl n es);rw [<- hr];unfold exo at hr;have hm1:=h.2.1;unfold maxLen at hm1;have HW:=zh hW;clear hW;by_cases c1:16<n
 .have HR:=zh (show r=false by rw [hr,xS (by omega)];rfl);clear hr;have c1':(16:Int)<(n:Int):=by omega
  go_enter Tryz.func230,Tryz.ntmps230
  go_wp2_with (rw [<- HW.o])
  go_ret;exact ⟨aA HR.o.symm,hB0⟩
 .have c1':¬ (16:Int)<(n:Int):=by omega
  have HR:=zh (show r=(List.range n).all (fun i=>ex1 tn bn bl (es.getD i zE)&&exn es i) by rw [hr,xR (by omega)];rfl);clear hr;go_enter Tryz.func230,Tryz.ntmps230
  go_wp2_with (rw [<- HW.o])
  clear q0 q1 q2 q3 q4 q5 q6 q7;go_loopw [14] (fun i wr=>∃ k:Nat,k<=n/\i=qI k/\Hid (∀ j,j<k->ex1 tn bn bl (es.getD j zE)=true)/\qY w wr/\Blk wr w.heap.size #[.string nm,qS ta tn tc,qS ba bn bc,v3,qI bss,v5,v6,qS ea n ec] 138) (qf n)
  .exact ⟨0,xC _,rfl,zh (fun j hj=>by omega),hB0,kb⟩
  .obtain ⟨k,hk,rfl,HJ,hB,kw⟩:=hrel;clear kb hB0;obtain ⟨q0,q1,q2,q3,q4,q5,q6,q7⟩:=kw.eight;by_cases hlt:k<n
   .have hlt':(k:Int)<(n:Int):=by omega
    obtain ⟨bb,off,rfl⟩:=h.addr (by omega);obtain ⟨y1,y2,y3⟩:=(h.bw hB).at k hlt;have HZ:=zh (fT (fun i=>ex1 tn bn bl (es.getD i zE)&&exn es i) n k hlt)
    have HG:=zh (show ex1 tn bn bl (es.getD k zE)=true->∀ j,j<k+1->ex1 tn bn bl (es.getD j zE)=true from fun h j hj=>by
     by_cases e:j=k
     .subst e;exact h
     .exact HJ.out j (by omega))
    have HN:=zh (fun w=>jK (es.getD k zE).1 w (h.size k));generalize es.getD k zE=E at *;obtain ⟨en,eb,ei⟩:=E;dsimp only at y1 y2 y3 HN;have lkw:=kw.lt;have hb1:=hb.bw (hB.alloc hB.size (.cells #[.string en,qI eb,qI ei] 163));have HP:=zh (fun w h=>gP nm ta tn tc ba bn bc bl v3 v5 v6 (qS (some (qR bb off)) n ec) bss eb w htn h);have kE:=Blk.new wr #[.string en,qI eb,qI ei] 163;have hA:qY wr (wr.alloc (.cells #[.string en,qI eb,qI ei] 163)):=bal;go_wp2_with fail
    refine (HP.o _ hb1).mono ?_;rintro e w1 ⟨pa,pn,px,ok,rfl,hok,hpn,hpm,hbp⟩;have kE1:=kE.bw hbp;have kw1:=(kw.bw hA).bw hbp;have hB1:=(hB.trans (hA.mono hB.size)).trans (hbp.mono (by have:=hB.size;simp;omega));clear kE kw hA hbp hb1 HP q0 q1 q2 q3 q4 q5 q6 q7 y1 y2 y3 hB;unfold maxLen at hpm;have HOK:=zh (xA hok hpn);clear hok hpn;obtain ⟨z1,z2,z3,z4⟩:=kE1.three;have HEX:Zh (ex1 tn bn bl (en,eb,ei)=(nmo en&&decide (0<=ei/\ei<pcn tn bn bl eb))):=rfl;have HU:=zh (fun w=>cZ ei ((pn:Int)-1) w);cases hn:nmo en
    .rw [hn] at HN;go_wp2_with (go_at_call 173;refine (HN.o _).mono ?_;rintro e w2 ⟨rfl,rfl⟩)
     go_ret;exact ⟨aA (by rw [HR.o];exact (HZ.o (by rw [HEX.o,hn];rfl)).symm),hB1⟩
    .rw [hn] at HN;cases ok
     .have hp:¬ 0<=pcn tn bn bl eb:=by have:=HOK.o.1;simpa using this.symm
      go_wp2_with (go_at_call 173;refine (HN.o _).mono ?_;rintro e w2 ⟨rfl,rfl⟩)
      go_ret;exact ⟨aA (by rw [HR.o];exact (HZ.o (by rw [HEX.o,xS (by omega)];simp)).symm),hB1⟩
     .have hp:(pn:Int)=pcn tn bn bl eb:=HOK.o.2 rfl;have HPP:=zh hp;clear hp;by_cases d1:0<=ei/\ei<=(pn:Int)-1
      .have HE1:=zh (show ex1 tn bn bl (en,eb,ei)=true by rw [HEX.o,hn,<- HPP.o,xR (by omega)];rfl);rw [xR d1] at HU;go_wp2_with (first|(go_at_call 173;refine (HN.o _).mono ?_;rintro e w2 ⟨rfl,rfl⟩)|(go_at_call 155;refine (HU.o _).mono ?_;rintro e w2 ⟨rfl,rfl⟩))
       go_roundw
       .exact ⟨k+1,by omega,by go_num,zh (HG.o HE1.o),hB1,kw1⟩
       .simp [qf,intOf];omega
      .rw [xS d1] at HU;have HE1:=zh (show ex1 tn bn bl (en,eb,ei)=false by rw [HEX.o,hn,<- HPP.o,xS (by omega)];rfl);go_wp2_with (first|(go_at_call 173;refine (HN.o _).mono ?_;rintro e w2 ⟨rfl,rfl⟩)|(go_at_call 155;refine (HU.o _).mono ?_;rintro e w2 ⟨rfl,rfl⟩))
       go_ret;exact ⟨aA (by rw [HR.o];exact (HZ.o (by rw [HE1.o];rfl)).symm),hB1⟩
   .have e:k=n:=by omega
    subst e;have HE:=zh (aLr tn bn bl k es (fun j hj=>HJ.out j hj));have h':=h.bw hB;have HF:=zh (fun w h=>nU ea k ec es w h (by omega));obtain ⟨S,hS⟩:=eqx (size (fd (fO es) k));have HS:=zh hS;clear hS;go_wp2_with fail
    go_region_with (first
     | (go_at_call 124;refine (HF.o _ (by exact h')).mono ?_;rintro e w1 ⟨rfl,hown,hb1⟩;have hl:∀ ty,(Builtin.len_ #[176] ty #[.map (some wr.heap.size)]).run Tryz.prog w1=.ok (qI (S:Int)) w1:=(by intro ty;rw [HS.o];exact hown.len Tryz.underlying176 ty);replace hb1:=dH hb1;obtain ⟨q0,q1,q2,q3,q4,q5,q6,q7⟩:=(kw.bw hb1).eight;clear hown))
    all_goals
     have HB1:=zh (hB.trans (hb1.mono hB.size));go_wp2;go_ret;exact ⟨aA (by rw [HR.o,HE.o,<- HS.o];first|rfl|(rw [xJ];simp;omega)),HB1.o⟩
theorem wL (nm:ByteArray)(ta:qO)(tn tc:Nat)(tz:qi)(ba:qO)(bn bc:Nat)(bl:List Bk)(da:qO)(dn dc:Nat)(dz:qi)(bss:Int)(ra:qO)(rn rc:Nat)(rz:qi)(ia:qO)(im ic:Nat)(ss:List ByteArray)(ea:qO)(en ec:Nat)(es:List Ex)(w:qw)
 (h:MD w nm ta tn tc tz ba bn bc bl da dn dc dz bss ra rn rc rz ia im ic ss ea en ec es):
 qC 211 #[.agg (qM nm ta tn tc ba bn bc da dn dc bss ra rn rc ia im ic ea en ec)] w (qB w (qI (mdo nm tn tz bn bl dn bss rn rz im ss en es))):=by
 obtain ⟨W,hW,hB0,kb⟩:=nwb w (qM nm ta tn tc ba bn bc da dn dc bss ra rn rc ia im ic ea en ec) 138;obtain ⟨r,hr⟩:=eqx (mdo nm tn tz bn bl dn bss rn rz im ss en es);rw [<- hr];unfold mdo at hr;have HRR:=zh hr;clear hr;have H0:=h.bw hB0;have hmd:=h.d.2.1;have htn:=h.t.2.1;have HN:=zh (fun w=>jK nm w h.n);have HCd:=zh (fun w ht hb=>aFx nm ta tn tc tz ba bn bc bl (qS da dn dc) (qS ra rn rc) (qS ia im ic) (qS ea en ec) bss w ht hb);have HRl:=zh (fun w h=>aAs nm (qS ta tn tc) (qS ba bn bc) da dn dc bss ra rn rc rz (qS ia im ic) (qS ea en ec) w hmd h);have HIm:=zh (fun w h=>wK nm (qS ta tn tc) (qS ba bn bc) (qS da dn dc) (qS ra rn rc) (qS ea en ec) bss ia im ic ss w h);have HEx:=zh (fun w hb h=>wQ nm ta tn tc ba bn bc bl (qS da dn dc) (qS ra rn rc) (qS ia im ic) bss ea en ec es w htn hb h);have HU:=zh (fun w=>cZ bss 512 w);unfold maxLen at hmd;obtain ⟨s0,s1⟩:=h.s;clear h htn;have HW:=zh hW;clear hW;generalize nmo nm=a1 at *;generalize cdo tn tz bn bl=a2 at *;generalize rlo rn rz dn=a4 at *;generalize imo im ss=a5 at *;generalize exo tn bn bl en es=a6 at *;obtain ⟨q0,q1,q2,q3,q4,q5,q6,q7⟩:=kb.eight;go_enter Tryz.func211,Tryz.ntmps211
 go_wp2_with (first|(rw [<- HW.o])|(go_at_call 173;refine (HN.o _).mono ?_;rintro e w1 ⟨rfl,rfl⟩;cases a1))
 .have e:=zh (show r=1 from by rw [HRR.o];simp);go_ret;exact ⟨aI e.o.symm,hB0⟩
 .refine (HCd.o _ H0.t H0.b).mono ?_;rintro e w2 ⟨rfl,hb2⟩;have kb2:=kb.bw hb2;have H2:=H0.bw hb2;have hB2:=hB0.trans (hb2.mono hB0.size);clear hb2 kb H0 hB0 q0 q1 q2 q3 q4 q5 q6 q7;obtain ⟨q0,q1,q2,q3,q4,q5,q6,q7⟩:=kb2.eight;cases a2
  .have e:=zh (show r=2 from by rw [HRR.o];simp);go_wp2;go_ret;exact ⟨aI e.o.symm,hB2⟩
  .by_cases c1:512<dn
   .have e:=zh (show r=3 from by rw [HRR.o];simp [c1]);have c1':(512:Int)<(dn:Int):=by omega
    go_wp2;go_ret;exact ⟨aI e.o.symm,hB2⟩
   .have c1':¬ (512:Int)<(dn:Int):=by omega
    by_cases c2:0<=bss/\bss<=512
    .have HR2:=zh (show r=if a4=false then 4 else if a5=false then 5 else if a6=false then 6 else 0 from by
      rw [HRR.o]
      simp only [Bool.true_eq_false,if_false,show ¬ (512<dn\/bss<0\/512<bss) by omega])
     clear HRR;rw [xR c2] at HU;go_wp2_with (go_at_call 155;refine (HU.o _).mono ?_;rintro e w1 ⟨rfl,rfl⟩)
     refine (HRl.o _ H2.r).mono ?_;rintro e w3 ⟨rfl,hb3⟩;have kb3:=kb2.bw hb3;have H3:=H2.bw hb3;have hB3:=hB2.trans (hb3.mono hB2.size);clear hb3 kb2 H2 hB2 q0 q1 q2 q3 q4 q5 q6 q7;obtain ⟨q0,q1,q2,q3,q4,q5,q6,q7⟩:=kb3.eight;cases a4
     .have e:=zh (show r=4 from by rw [HR2.o];simp);go_wp2;go_ret;exact ⟨aI e.o.symm,hB3⟩
     .go_wp2_with fail
      refine (HIm.o _ H3.i).mono ?_;rintro e w4 ⟨rfl,hb4⟩;have kb4:=kb3.bw hb4;have H4:=H3.bw hb4;have hB4:=hB3.trans (hb4.mono hB3.size);clear hb4 kb3 H3 hB3 q0 q1 q2 q3 q4 q5 q6 q7;obtain ⟨q0,q1,q2,q3,q4,q5,q6,q7⟩:=kb4.eight;cases a5
      .have e:=zh (show r=5 from by rw [HR2.o];simp);go_wp2;go_ret;exact ⟨aI e.o.symm,hB4⟩
      .go_wp2_with fail
       refine (HEx.o _ H4.b H4.e).mono ?_;rintro e w5 ⟨rfl,hb5⟩;have hB5:=hB4.trans (hb5.mono hB4.size);clear hb5 H4 hB4 kb4;cases a6
       .have e:=zh (show r=6 from by rw [HR2.o];simp);go_wp2;go_ret;exact ⟨aI e.o.symm,hB5⟩
       .have e:=zh (show r=0 from by rw [HR2.o];simp);go_wp2;go_ret;exact ⟨aI e.o.symm,hB5⟩
    .rw [xS c2] at HU;have e:=zh (show r=3 from by rw [HRR.o];simp only [Bool.true_eq_false,if_false,show (512<dn\/bss<0\/512<bss) by omega,if_true]);go_wp2_with (go_at_call 155;refine (HU.o _).mono ?_;rintro e w1 ⟨rfl,rfl⟩)
     go_ret;exact ⟨aI e.o.symm,hB2⟩
theorem aAc (xs ys:qi)(k:Nat)(h:xs.take k=ys.take k)(hx:k<xs.length)(hy:k<ys.length)(he:xs.getD k 0=ys.getD k 0):xs.take (k+1)=ys.take (k+1):=by
 rw [List.take_succ_eq_append_getElem hx,List.take_succ_eq_append_getElem hy,h];simp [xB,hx,hy] at he;rw [he]
theorem gU (a a':qO)(n cap n' cap':Nat)(xs ys:qi)(w:qw)(h:BS w a n cap xs)(h':BS w a' n' cap' ys):
 qC 100 #[qS a n cap,qS a' n' cap'] w (qB w (.bool (decide (xs=ys)))):=by
 obtain ⟨hl,hmx,hr,hc,_⟩:=h;obtain ⟨hl',hmx',hr',hc',_⟩:=h';unfold maxLen at hmx hmx';by_cases hn:n=n'
 .subst hn;have hne:((n:Int) !=(n:Int))=false:=by simp
  by_cases hn0:n=0
  .subst hn0;obtain rfl:xs=[]:=xE hl;obtain rfl:ys=[]:=xE hl';clear hc hc';go_enter Tryz.func100,Tryz.ntmps100
   go_wp2;go_loop [5] (fun i=>i=qI 0) (fun _=>0)
   .rfl
   .obtain rfl:=hrel;go_wp2;go_ret;exact ⟨rfl,brf⟩
  .obtain ⟨b,off,rfl,hd⟩:=hc hn0;obtain ⟨b',off',rfl,hd'⟩:=hc' hn0;clear hc hc';go_enter Tryz.func100,Tryz.ntmps100
   go_wp2;go_loopw [5] (fun i wr=>∃ k:Nat,k<=n/\i=qI k/\xs.take k=ys.take k/\qY w wr) (qf n)
   .exact ⟨0,xC _,rfl,by simp,brf⟩
   .obtain ⟨k,hk,rfl,hT,hB⟩:=hrel;by_cases hlt:k<n
    .have hlt':(k:Int)<(n:Int):=by omega
     have hck:wr.cell? (qR b (off+k))=some (.int .u8 (xs.getD k 0)):=(hB.cell (xD w _ (hd k hlt))).trans (hd k hlt);have hck':wr.cell? (qR b' (off'+k))=some (.int .u8 (ys.getD k 0)):=(hB.cell (xD w _ (hd' k hlt))).trans (hd' k hlt);by_cases he:xs.getD k 0=ys.getD k 0
     .have hS:=aAc xs ys k hT (by omega) (by omega) he;have HS:Zh (xs.take (k+1)=ys.take (k+1)):=hS;rw [he] at hck;clear hS hT hd hd' he;generalize ys.getD k 0=z at *;have hz:(z !=z)=false:=by simp
      go_wp2
      go_quiet (fail)
      go_wp2
      go_roundw
      .exact ⟨k+1,by omega,by go_num,HS.o,below_drewN hB _⟩
      .simp [qf,intOf];omega
     .have hf:Zh (decide (xs=ys)=false):=by
       show _=_;simp;intro e;exact he (by rw [e])
      have hz:(xs.getD k 0 !=ys.getD k 0)=true:=by simpa using he
      clear hT hd hd' he;generalize ys.getD k 0=z at *;generalize xs.getD k 0=z' at *;go_wp2
      go_quiet (fail)
      go_wp2;go_ret;exact ⟨aA hf.o.symm,below_drewN hB _⟩
    .have hf:Zh (decide (xs=ys)=true):=by
      show _=_;simp;rw [xG (by omega),xG (by omega)] at hT;exact hT
     clear hT hd hd';go_wp2;go_ret;exact ⟨aA hf.o.symm,hB⟩
 .have hf:Zh (decide (xs=ys)=false):=by
   show _=_;simp;intro e;rw [e] at hl;omega
  have hne:((n:Int) !=(n':Int))=true:=by simp;omega
  clear hc hc';go_enter Tryz.func100,Tryz.ntmps100
  go_wp2;go_ret;exact ⟨aA hf.o.symm,brf⟩
theorem wR (nm:ByteArray)(ta ta':qO)(tn tc tc':Nat)(tz:qi)(ba ba':qO)(bn bc bc':Nat)(bl bl':List Bk)(da da':qO)(dn dc dc':Nat)(dz:qi)(bss:Int)(ra ra':qO)(rn rc rc':Nat)(rz:qi)(ia ia':qO)(im ic ic':Nat)(ss:List ByteArray)(ea ea':qO)(en ec ec':Nat)(es:List Ex)(w:qw)(h:MT w nm ta tn tc tz ba bn bc bl da dn dc dz bss ra rn rc rz ia im ic ss ea en ec es)(h':MT w nm ta' tn tc' tz ba' bn bc' bl' da' dn dc' dz bss ra' rn rc' rz ia' im ic' ss ea' en ec' es)(hz:∀ i,i<bn->(bl'.getD i zB).2.1=(bl.getD i zB).2.1/\(bl'.getD i zB).2.2.2=(bl.getD i zB).2.2.2):
 qC 99 #[.agg (qM nm ta tn tc ba bn bc da dn dc bss ra rn rc ia im ic ea en ec),.agg (qM nm ta' tn tc' ba' bn bc' da' dn dc' bss ra' rn rc' ia' im ic' ea' en ec')] w (qB w (.bool true)):=by
 have hB0:qY w ((w.alloc (.cells (qM nm ta tn tc ba bn bc da dn dc bss ra rn rc ia im ic ea en ec) 138)).alloc (.cells (qM nm ta' tn tc' ba' bn bc' da' dn dc' bss ra' rn rc' ia' im ic' ea' en ec') 138)):=bal.alloc (by simp) _;have u0:=(Blk.new w (qM nm ta tn tc ba bn bc da dn dc bss ra rn rc ia im ic ea en ec) 138).alloc (.cells (qM nm ta' tn tc' ba' bn bc' da' dn dc' bss ra' rn rc' ia' im ic' ea' en ec') 138);have v0:=Blk.new (w.alloc (.cells (qM nm ta tn tc ba bn bc da dn dc bss ra rn rc ia im ic ea en ec) 138)) (qM nm ta' tn tc' ba' bn bc' da' dn dc' bss ra' rn rc' ia' im ic' ea' en ec') 138;try unfold qY at *
 simp only [xF] at v0;have hn:(nm.toList !=nm.toList)=false:=by simp
 have hs:(bss !=bss)=false:=by simp
 go_enter Tryz.func99,Tryz.ntmps99
 go_wp2_with fail
 refine (jO ta ta' tn tc tn tc' tz tz _ (h.t.bw hB0) (h'.t.bw hB0)).mono ?_;rw [xR rfl];rintro e w1 ⟨rfl,hb⟩;have hB1:=hB0.trans (hb.mono (by have:=hB0.size;simp;omega));have u1:=u0.bw hb;have v1:=v0.bw hb;clear hb u0 v0;obtain ⟨q0,q1,q2,q3,q4,q5,q6,q7⟩:=u1.eight;obtain ⟨p0,p1,p2,p3,p4,p5,p6,p7⟩:=v1.eight;go_wp2_with fail
 refine (aBs ba ba' bn bc bc' bl bl' _ (h.b.bw hB1) (h'.b.bw hB1) hz).mono ?_;rintro e w2 ⟨rfl,hb⟩;have hB2:=hB1.trans (hb.mono (by have:=hB1.size;omega));have u2:=u1.bw hb;have v2:=v1.bw hb;clear hb u1 v1 q0 q1 q2 q3 q4 q5 q6 q7 p0 p1 p2 p3 p4 p5 p6 p7;obtain ⟨q0,q1,q2,q3,q4,q5,q6,q7⟩:=u2.eight;obtain ⟨p0,p1,p2,p3,p4,p5,p6,p7⟩:=v2.eight;go_wp2_with fail
 refine (gU da da' dn dc dn dc' dz dz _ (h.d.bw hB2) (h'.d.bw hB2)).mono ?_;rw [xR rfl];rintro e w3 ⟨rfl,hb⟩;have hB3:=hB2.trans (hb.mono (by have:=hB2.size;omega));have u3:=u2.bw hb;have v3:=v2.bw hb;clear hb u2 v2 q0 q1 q2 q3 q4 q5 q6 q7 p0 p1 p2 p3 p4 p5 p6 p7;obtain ⟨q0,q1,q2,q3,q4,q5,q6,q7⟩:=u3.eight;obtain ⟨p0,p1,p2,p3,p4,p5,p6,p7⟩:=v3.eight;go_wp2_with fail
 refine (jO ra ra' rn rc rn rc' rz rz _ (h.r.bw hB3) (h'.r.bw hB3)).mono ?_;rw [xR rfl];rintro e w4 ⟨rfl,hb⟩;have hB4:=hB3.trans (hb.mono (by have:=hB3.size;omega));have u4:=u3.bw hb;have v4:=v3.bw hb;clear hb u3 v3 q0 q1 q2 q3 q4 q5 q6 q7 p0 p1 p2 p3 p4 p5 p6 p7;obtain ⟨q0,q1,q2,q3,q4,q5,q6,q7⟩:=u4.eight;obtain ⟨p0,p1,p2,p3,p4,p5,p6,p7⟩:=v4.eight;go_wp2_with fail
 refine (uP ia ia' im ic ic' ss _ (h.i.bw hB4) (h'.i.bw hB4)).mono ?_;rintro e w5 ⟨rfl,hb⟩;have hB5:=hB4.trans (hb.mono (by have:=hB4.size;omega));have u5:=u4.bw hb;have v5:=v4.bw hb;clear hb u4 v4 q0 q1 q2 q3 q4 q5 q6 q7 p0 p1 p2 p3 p4 p5 p6 p7;obtain ⟨q0,q1,q2,q3,q4,q5,q6,q7⟩:=u5.eight;obtain ⟨p0,p1,p2,p3,p4,p5,p6,p7⟩:=v5.eight;go_wp2_with fail
 refine (uR ea ea' en ec ec' es _ (h.e.bw hB5) (h'.e.bw hB5)).mono ?_;rintro e w6 ⟨rfl,hb⟩;have hB6:=hB5.trans (hb.mono (by have:=hB5.size;omega));have u6:=u5.bw hb;have v6:=v5.bw hb;clear hb u5 v5 q0 q1 q2 q3 q4 q5 q6 q7 p0 p1 p2 p3 p4 p5 p6 p7;obtain ⟨q0,q1,q2,q3,q4,q5,q6,q7⟩:=u6.eight;obtain ⟨p0,p1,p2,p3,p4,p5,p6,p7⟩:=v6.eight;go_wp2;go_ret;exact ⟨rfl,hB6⟩
theorem aEs {tz:qi}{dz:qi}{rz:qi}{w W:qw}{g1 g2 g3 g5 g6 g7:Nat}{gs:List Nat}(h:MT w nm ta tn tc tz ba bn bc bl da dn dc dz bss ra rn rc rz ia im ic ss ea en ec es)(hg:gs.length=bn)
 (r1:RowI W g1 tz) (r2:RowB W g2 bn gs bl) (r3:Row8 W g3 dz) (r5:RowI W g5 rz) (r6:RowT W g6 ss) (r7:RowX W g7 es):MT W nm (qP g1) tn tn tz (qP g2) bn bn (reb gs bl) (qP g3) dn dn dz bss (qP g5) rn rn rz (qP g6) im im ss (qP g7) en en es where
 n:=h.n
 t:=r1.is (by rw [h.t.1];exact h.t.2.1) h.t.2.2.1 _ _ h.t.1
 b:=r2.bks h.b hg
 d:=r3.bs (by rw [h.d.1];exact h.d.2.1) h.d.2.2.1 _ _ h.d.1
 s:=h.s
 r:=r5.is (by rw [h.r.1];exact h.r.2.1) h.r.2.2.1 _ _ h.r.1
 i:=⟨h.i.1,h.i.2.1,h.i.2.2.1,fun _=>⟨g6,0,rfl,fun i hi=>by rw [Nat.zero_add];exact r6.cell i (by rw [h.i.1];exact hi)⟩,aN⟩
 e:=r7.te h.e
theorem aKz {tz:qi}{dz:qi}{rz:qi}{w:qw}(h:MT w nm ta tn tc tz ba bn bc bl da dn dc dz bss ra rn rc rz ia im ic ss ea en ec es)(hs:cT nm tn bn bl dn rn im ss en es<=1048576):MD w nm ta tn tc tz ba bn bc bl da dn dc dz bss ra rn rc rz ia im ic ss ea en ec es where
 n:=by unfold cT at hs;omega
 t:=h.t
 b:=h.b
 d:=h.d
 s:=h.s
 r:=h.r
 i:=h.i.ss (by unfold cT at hs;omega)
 e:=h.e.es (by unfold cT at hs;omega)
theorem aJ5 (gs:List Nat)(nm:ByteArray)(tn bn:Nat)(bl:List Bk)(dn rn im:Nat)(ss:List ByteArray)(en:Nat)(es:List Ex)(h:bl.length=bn):cT nm tn bn (reb gs bl) dn rn im ss en es=cT nm tn bn bl dn rn im ss en es:=by
 have key:∀ k,k<=bn->upS (fun j=>((reb gs bl).getD j zB).2.1) k=upS (fun j=>(bl.getD j zB).2.1) k:=by
  intro k
  induction k with
  | zero=>intro _;rfl
  | succ k ih=>
    intro hk;show upS _ k+_=upS _ k+_;rw [ih (by omega)];congr 1;simp only;rw [gX _ _ _]
 unfold cT;rw [key bn aN]
structure PMod where
 nm:ByteArray
 tz:List Int
 bl:List (List Int)
 dz:List Int
 bss:Int
 rz:List Int
 ss:List ByteArray
 es:List Ex
def mB (bl:List (List Int)):List Bk:=bl.map fun l=>(none,l.length,l.length,l)
def fD (P:PMod):Int:=mdo P.nm P.tz.length P.tz P.bl.length (mB P.bl) P.dz.length P.bss P.rz.length P.rz P.ss.length P.ss P.es.length P.es
theorem aNh {tz:qi}{bl':List Bk}{rz:qi}(hl:bl.length=bl'.length)(h:∀ i,i<bl.length->(bl.getD i zB).2.1=(bl'.getD i zB).2.1/\(bl.getD i zB).2.2.2=(bl'.getD i zB).2.2.2):
 mdo nm tn tz bl.length bl dn bss rn rz im ss en es=mdo nm tn tz bl.length bl' dn bss rn rz im ss en es:=by
 have e:reb [] bl=reb [] bl':=by
  unfold reb;rw [<- hl];apply List.map_congr_left;intro i hi;have:=h i (by simpa using hi);rw [this.1,this.2]
 rw [<- aGm [] nm tn tz bl.length bl dn bss rn rz im ss en es rfl,e,aGm [] nm tn tz bl.length bl' dn bss rn rz im ss en es hl.symm]
theorem aC (w:qw)(g i:Nat)(v:Value):Turn (fun j=>j=g) w (w.setCell (qR g i) v):=⟨rfl,rfl,rfl,by rw [aL];exact aN,fun k _ hk=>heap_setCell_other _ _ _ _ hk⟩
def OG {α:Type}(t:TypeId)(sz:Nat)(f:α->List Value)(w:qw)(base:Nat)(v:Value)(xs:List α):Prop:=w.ownsRow base t sz v xs.length (xs.flatMap f)
theorem OG.bw {α:Type}{t:TypeId}{f:α->List Value}{w w':qw}{xs:List α}(h:OG t sz f w base v xs)(hb:qY w w'):OG t sz f w' base v xs:=by
 obtain ⟨hl,h0|⟨g,cap,cur,hv,hg,hh,h1,h2,h3,h4⟩⟩:=h
 .exact ⟨hl,.inl h0⟩
 .exact ⟨hl,.inr ⟨g,cap,cur,hv,hg,Blk.bw (w:=w) hh hb,h1,h2,h3,h4⟩⟩
theorem OG.mono {α:Type}{t:TypeId}{f:α->List Value}{w:qw}{xs:List α}(h:OG t sz f w base v xs)(hb:base'<=base):OG t sz f w base' v xs:=by
 obtain ⟨hl,h0|⟨g,cap,cur,hv,hg,hh,h1,h2,h3,h4⟩⟩:=h
 .exact ⟨hl,.inl h0⟩
 .exact ⟨hl,.inr ⟨g,cap,cur,hv,by omega,hh,h1,h2,h3,h4⟩⟩
theorem OG.turn {α:Type}{t:TypeId}{f:α->List Value}{w w':qw}{xs:List α}(h:OG t sz f w base v xs)(ht:Turn S w w')(hS:∀ k,S k->¬ base<=k):OG t sz f w' base v xs:=by
 obtain ⟨hl,h0|⟨g,cap,cur,hv,hg,hh,h1,h2,h3,h4⟩⟩:=h
 .exact ⟨hl,.inl h0⟩
 .exact ⟨hl,.inr ⟨g,cap,cur,hv,hg,aF (w:=w) ht hh (fun s=>hS g s hg),h1,h2,h3,h4⟩⟩
theorem OG.lt {α:Type}{t:TypeId}{f:α->List Value}{w:qw}{xs:List α}(h:OG t sz f w base v xs):∀ k,v.ownBlock=some k->base<=k/\k<w.heap.size:=World.ownsRow.lt h
theorem fL {α:Type}(t:TypeId)(sz:Nat)(f:α->List Value)(w:qw)(base:Nat):OG t sz f w base (qS none 0 0) []:=⟨by simp,.inl ⟨rfl,rfl⟩⟩
theorem aR {α:Type}{t:TypeId}{f:α->List Value}{w:qw}{xs:List α}(h:OG t sz f w base v xs):∃ a c,v=qS a xs.length c:=by
 obtain ⟨hl,⟨h0,h1⟩|⟨g,cap,cur,hv,_⟩⟩:=h
 .exact ⟨none,0,by rw [h0,h1]⟩
 .exact ⟨_,_,hv⟩
theorem sA {w W W':qw}(h:Turn S w W)(hg:W.grownBy W' row)(hr:∀ k,row=some k->w.heap.size<=k):Turn S w W':=
 ⟨hg.os.trans h.os,hg.tape.trans h.tape,hg.output.trans h.output,xM h.size hg.size,fun k hk hs=>(hg.block k (Nat.lt_of_lt_of_le hk h.size) (fun e=>by have:=hr k e.symm;omega)).trans (h.block k hk hs)⟩
theorem bJ (w:qw)(cs:Array Value)(t:TypeId)(xs:List Value)(h:cs=xs.toArray):∀ j u,xs[j]?=some u->(w.alloc (.cells cs t)).cell? (((qR w.heap.size 0):Addr).add j)=some u:=by
 intro j u hj;subst h;rw [bP,Nat.zero_add,Blk.cell (Blk.new w _ _)];simpa using hj
def clI (x:Int):List Value:=[qI x]
def clT (x:ByteArray):List Value:=[.string x]
def clX (x:Ex):List Value:=[.string x.1,qI x.2.1,qI x.2.2]
theorem iC {w W:qw}(h:Turn S w W)(hk:w.heap.size<=k)(i:Nat)(v:Value):Turn S w (W.setCell (qR k i) v):=
 ⟨h.os,h.tape,h.output,by rw [aL];exact h.size,fun j hj hs=>by rw [heap_setCell_other _ _ _ _ (by show j≠k;omega)];exact h.block j hj hs⟩
structure OBk (w:qw)(base:Nat)(v:Value)(bl:List Bk):Prop where
 head:w.ownsRow base 25 1 v bl.length (bl.map fun B=>qS B.1 B.2.1 B.2.2.1)
 rows:∀ B∈bl,B.2.1=B.2.2.2.length/\OG 3 1 clI w base (qS B.1 B.2.1 B.2.2.1) B.2.2.2
 apart:bl.Pairwise fun A B=>∀ k,(qS A.1 A.2.1 A.2.2.1).ownBlock=some k->(qS B.1 B.2.1 B.2.2.1).ownBlock≠some k
theorem aD {w:qw}{t:TypeId}{xs:List Value}(h:w.ownsRow base t sz v n xs)(hk:v.ownBlock=some k):∃ cur,Blk w k cur t:=by
 obtain ⟨hl,⟨h0,_⟩|⟨g,cap,cur,hv,_,hh,_⟩⟩:=h
 .subst h0;simp [Value.ownBlock] at hk
 .subst hv;simp [Value.ownBlock] at hk;subst hk;exact ⟨cur,hh⟩
theorem aH {w:qw}{cs':Array Value}{t t':TypeId}(h:Blk w k cs t)(h':Blk w k cs' t'):t=t':=by
 unfold Blk at h h';rw [h] at h';simp at h';exact h'.2
theorem OG.grown {α:Type}{t:TypeId}{f:α->List Value}{w w':qw}{xs:List α}(h:OG t sz f w base v xs)(hg:w.grownBy w' row)(hk:v.ownBlock=none\/v.ownBlock≠row):OG t sz f w' base v xs:=World.ownsRow.kept h hg hk
theorem OBk.turn {w w':qw}(h:OBk w base v bl)(ht:Turn S w w')(hS:∀ k,S k->¬ base<=k):OBk w' base v bl:=by
 refine ⟨?_,fun B hB=>⟨(h.rows B hB).1,(h.rows B hB).2.turn ht hS⟩,h.apart⟩;obtain ⟨hl,h0|⟨g,cap,cur,hv,hg,hh,h1,h2,h3,h4⟩⟩:=h.head
 .exact ⟨hl,.inl h0⟩
 .exact ⟨hl,.inr ⟨g,cap,cur,hv,hg,aF (w:=w) ht hh (fun s=>hS g s hg),h1,h2,h3,h4⟩⟩
theorem OBk.lt {w:qw}(h:OBk w base v bl):∀ k,v.ownBlock=some k->base<=k/\k<w.heap.size:=h.head.lt
theorem aIi {w:qw}(h:OBk w base v bl):∃ a c,v=qS a bl.length c:=by
 obtain ⟨hl,⟨h0,h1⟩|⟨g,cap,cur,hv,_⟩⟩:=h.head
 .exact ⟨none,0,by rw [h0,h1]⟩
 .exact ⟨_,_,hv⟩
theorem OBk.push {W W':qw}{lo:Nat}{v':Value}{A:qO}{C:Nat}{x:qi}(h:OBk W base (qS a k c) bl)(hl:bl.length=k)(hx:OG 3 1 clI W lo (qS A x.length C) x)(hb:base<=lo)(hlo:∀ B∈bl,∀ j,(qS B.1 B.2.1 B.2.2.1).ownBlock=some j->j<lo)
 (hown:W'.ownsRow base 25 1 v' (k+1) (bl.map (fun B=>qS B.1 B.2.1 B.2.2.1)++[qS A x.length C])) (hg:W.grownBy W' (qS a k c).ownBlock):OBk W' base v' (bl++[(A,x.length,C,x)]):=by
 have hne:∀ (v:Value) (xs:qi) (lo:Nat),OG 3 1 clI W lo v xs->v.ownBlock=none\/v.ownBlock≠(qS a k c).ownBlock:=fun v xs lo ho=>by
  cases e:v.ownBlock with
  | none=>exact .inl rfl
  | some j=>
    refine .inr (fun e'=>?_);obtain ⟨c1,k1⟩:=aD ho e;obtain ⟨c2,k2⟩:=aD h.head e'.symm;exact absurd (aH k1 k2) (by decide)
 refine ⟨?_,?_,?_⟩
 .rw [xI,hl,List.map_append];exact hown
 .intro B hB;rcases List.mem_append.1 hB with hB|hB
  .exact ⟨(h.rows B hB).1,(h.rows B hB).2.grown hg (hne _ _ _ (h.rows B hB).2)⟩
  .simp at hB;subst hB;exact ⟨rfl,(hx.grown hg (hne _ _ _ hx)).mono hb⟩
 .rw [List.pairwise_append];refine ⟨h.apart,by simp,fun B hB X hX j hj e=>?_⟩;simp at hX;subst hX;have h1:=hlo B hB j hj;have h2:=(hx.lt j e).1;omega
theorem OBk.mono {w:qw}(h:OBk w base v bl)(hb:base'<=base):OBk w base' v bl:=by
 refine ⟨?_,fun B hB=>⟨(h.rows B hB).1,(h.rows B hB).2.mono hb⟩,h.apart⟩;obtain ⟨hl,h0|⟨g,cap,cur,hv,hg,hh,h1,h2,h3,h4⟩⟩:=h.head
 .exact ⟨hl,.inl h0⟩
 .exact ⟨hl,.inr ⟨g,cap,cur,hv,by omega,hh,h1,h2,h3,h4⟩⟩
theorem dA {α:Type}(f:α->Value):∀ xs:List α,xs.flatMap (fun x=>[f x])=xs.map f
 | []=>rfl
 | x::xs=>by rw [xT,dA f xs];rfl
theorem aDq (xs:qi):xs.flatMap clI=xs.map (Value.int .i64):=dA _ xs
theorem uK (xs:List ByteArray):xs.flatMap clT=xs.map Value.string:=dA _ xs
theorem uJ:∀ (xs:List Ex) (i:Nat),i<xs.length->(xs.flatMap clX)[i*3]?=some (.string (xs.getD i zE).1)/\(xs.flatMap clX)[i*3+1]?=some (qI (xs.getD i zE).2.1)/\(xs.flatMap clX)[i*3+2]?=some (qI (xs.getD i zE).2.2)
 | [],i,h=>by simp at h
 | x::xs,0,h=>⟨rfl,rfl,rfl⟩
 | x::xs,i+1,h=>by
   have ih:=uJ xs i (by simpa using h)
   have e:∀ d,((x::xs).flatMap clX)[(i+1)*3+d]?=(xs.flatMap clX)[i*3+d]?:=fun d=>by
    rw [xT,List.getElem?_append_right (by simp [clX];omega)];congr 1;simp [clX];omega
   have e0:=e 0;simp only [Nat.add_zero] at e0;refine ⟨e0.trans ih.1,(e 1).trans ih.2.1,(e 2).trans ih.2.2⟩
theorem aS {α:Type}{t:TypeId}{f:α->List Value}{w:qw}{xs:List α}(h:OG t sz f w base (qS a n c) xs):xs.length=n/\n<=maxLen/\n<=c/\(n≠0->∃ g,a=some (qR g 0)/\∀ j u,(xs.flatMap f)[j]?=some u->w.cell? (qR g j)=some u):=by
 have hc:=fun g hg=>World.ownsRow.cells h (g:=g) hg;obtain ⟨hl,⟨h0,h1⟩|⟨g,cap,cur,hv,hg,hh,h1,h2,h3,h4⟩⟩:=h
 .simp at h0;obtain ⟨rfl,rfl,rfl⟩:=h0;exact ⟨h1,xC _,aN,fun hn=>absurd rfl hn⟩
 .simp at hv;obtain ⟨rfl,rfl,rfl⟩:=hv;refine ⟨rfl,by omega,h1,fun hn=>⟨g,rfl,fun j u hj=>?_⟩⟩;have:=hc g rfl j u hj
  rwa [bP,Nat.zero_add] at this
theorem aC1 {w:qw}{xs:qi}(h:OG 3 1 clI w base (qS a n c) xs)(hx:∀ z∈xs,wfi z):IS w a n c xs:=by
 obtain ⟨h1,h2,h3,h4⟩:=aS h;refine ⟨h1,h2,hx,fun hn=>?_,h3⟩;obtain ⟨g,rfl,hc⟩:=h4 hn;refine ⟨g,0,rfl,fun i hi=>?_⟩;rw [Nat.zero_add];refine hc i _ ?_;rw [aDq];simp [xB,show i<xs.length by omega]
theorem aQj {w:qw}{xs:List ByteArray}(h:OG 9 1 clT w base (qS a n c) xs)(hx:∀ s∈xs,s.size<=1048576):SS w a n c xs:=by
 obtain ⟨h1,h2,h3,h4⟩:=aS h;refine ⟨h1,h2,hx,fun hn=>?_,h3⟩;obtain ⟨g,rfl,hc⟩:=h4 hn;refine ⟨g,0,rfl,fun i hi=>?_⟩;rw [Nat.zero_add];refine hc i _ ?_;rw [uK];simp [xB,show i<xs.length by omega]
theorem aQk {w:qw}(h:OG 163 3 clX w base (qS a n c) xs)(hx:∀ s∈xs,s.1.size<=1048576):ES w a n c xs:=by
 obtain ⟨h1,h2,h3,h4⟩:=aS h;refine ⟨h1,h2,hx,fun hn=>?_,h3⟩;obtain ⟨g,rfl,hc⟩:=h4 hn;refine ⟨g,0,rfl,fun i hi=>?_⟩;rw [Nat.zero_add];obtain ⟨f0,f1,f2⟩:=uJ xs i (by omega);exact ⟨hc _ _ f0,hc _ _ f1,hc _ _ f2⟩
theorem aNd {w:qw}(h:OBk w base (qS a n c) bl)(hx:∀ B∈bl,∀ z∈B.2.2.2,wfi z):BKS w a n c bl:=by
 have hh:OG 25 1 (fun B:Bk=>[qS B.1 B.2.1 B.2.2.1]) w base (qS a n c) bl:=by unfold OG;rw [dA];exact h.head
 obtain ⟨h1,h2,h3,h4⟩:=aS hh;refine ⟨h1,h2,fun hn=>?_,fun i hi=>?_,h3⟩
 .obtain ⟨g,rfl,hc⟩:=h4 hn;refine ⟨g,0,rfl,fun i hi=>?_⟩;rw [Nat.zero_add];refine hc i _ ?_;rw [dA];simp [xB,show i<bl.length by omega]
 .have hm:bl.getD i zB∈bl:=by simp [xB,show i<bl.length by omega]
  obtain ⟨e,o⟩:=h.rows _ hm;exact aC1 o (hx _ hm)
theorem OG.kept {α:Type}{t:TypeId}{f:α->List Value}{w w':qw}{xs:List α}(h:OG t sz f w base v xs)(ht:Turn S w w')(hk:∀ k,v.ownBlock=some k->¬ S k):OG t sz f w' base v xs:=by
 obtain ⟨hl,h0|⟨g,cap,cur,hv,hg,hh,h1,h2,h3,h4⟩⟩:=h
 .exact ⟨hl,.inl h0⟩
 .exact ⟨hl,.inr ⟨g,cap,cur,hv,hg,aF (w:=w) ht hh (hk g (by rw [hv];rfl)),h1,h2,h3,h4⟩⟩
theorem gQ {α:Type}{t:TypeId}{f:α->List Value}{w:qw}{xs:List α}(h:OG t sz f w base (qS a n c) xs)(hn:n≠0):∃ g,a=some (qR g 0):=by
 obtain ⟨_,_,_,h4⟩:=aS h;obtain ⟨g,hg,_⟩:=h4 hn;exact ⟨g,hg⟩
theorem aNc {w:qw}(h:OG 9 1 clT w base (qS (qP g) n c) ss)(i:Nat)(hi:i<n)(s:ByteArray):OG 9 1 clT (w.setCell (qR g i) (.string s)) base (qS (qP g) n c) (ss.set i s):=by
 unfold OG at *;rw [uK] at *;obtain ⟨hl,⟨h0,_⟩|⟨g',cap',cur,hv,hg,hh,h1,h2,h3,h4⟩⟩:=h
 .simp at h0
 .simp at hv;obtain ⟨rfl,rfl,rfl⟩:=hv;refine ⟨by simp,.inr ⟨g,c,cur.setIfInBounds i (.string s),by simp,hg,Blk.set (w:=w) hh i _,by simpa using h1,h2,by simpa using h3,?_⟩⟩;rw [List.length_set,xW,List.take_set,h4,List.map_set]
def fM (k n:Nat):List ByteArray:=(List.range n).map fun i=>mtx (k+i)
def gC (zs:List ByteArray)(k m:Nat):List ByteArray:=(List.range zs.length).map fun i=>if i<m then mtx (k+i) else zs.getD i zS
theorem aC5 (zs:List ByteArray)(k:Nat):gC zs k 0=zs:=by
 apply List.ext_getElem
 .simp [gC]
 .intro i h1 h2;simp [gC,h2]
theorem aEz (zs:List ByteArray)(k:Nat):gC zs k zs.length=fM k zs.length:=by
 apply List.ext_getElem
 .simp [gC,fM]
 .intro i h1 h2;simp [fM] at h2;simp [gC,fM,h2]
theorem aEy (zs:List ByteArray)(k m:Nat)(h:m<zs.length):(gC zs k m).set m (mtx (k+m))=gC zs k (m+1):=by
 apply List.ext_getElem
 .simp [gC]
 .intro i h1 h2;simp only [gC,List.getElem_set,List.getElem_map,List.getElem_range];by_cases hik:m=i
  .subst hik;simp
  .by_cases h3:i<m
   .simp [hik,h3,show i<m+1 by omega]
   .simp [hik,h3,show ¬ i<m+1 by omega]
theorem oP (g n cap base:Nat)(zs:List ByteArray)(k:Nat)(w:qw)(h:OG 9 1 clT w base (qS (qP g) n cap) zs)(hn:n<=5000000)(h0:0<k)(hk:k<=20000000):
 qC 106 #[qS (qP g) n cap,qI k] w fun e w'=>e=.returned (qI ((k+n:Nat):Int))/\OG 9 1 clT w' base (qS (qP g) n cap) (fM k n)/\Turn (fun j=>j=g) w w':=by
 have hl:=(aS h).1;go_enter Tryz.func106,Tryz.ntmps106
 go_wp2;go_loopw [1,5] (fun x i wr=>∃ m:Nat,m<=n/\i=qI m/\x=qI ((k+m:Nat):Int)/\OG 9 1 clT wr base (qS (qP g) n cap) (gC zs k m)/\Turn (fun j=>j=g) w wr) (fun _ i _=>n-(intOf i).toNat)
 .exact ⟨0,xC _,rfl,rfl,by rw [aC5];exact h,Turn.refl _ _⟩
 .obtain ⟨m,hm,rfl,rfl,O,T⟩:=hrel;by_cases hlt:m<n
  .have hlt':(m:Int)<(n:Int):=by omega
   have HT:=zh (dN (k+m) wr);go_wp2_with fail
   refine HT.o.mono ?_;rintro e w1 ⟨rfl,hb⟩;have O1:=O.bw hb;have T1:=T.trans (aJ hb)
   have hsl:Sl (fun j=>j=g) w1 (qP g) n 1:=by
    obtain ⟨_,⟨h0',_⟩|⟨g',cap',cur,hv,_,hh,h1,_,h3,_⟩⟩:=O1
    .simp at h0'
    .simp at hv;obtain ⟨rfl,rfl,rfl⟩:=hv;refine Sl.ofBlk (c:=0) hh rfl ?_;simp at h1 h3;omega
   obtain ⟨⟨u,c0⟩,f0,_⟩:=hsl.cell (by omega) m (by omega);rw [Nat.zero_add] at c0 f0;have O2:=aNc O1 m hlt (mtx (k+m));rw [aEy zs k m (by omega)] at O2;have T2:=T1.trans (aC w1 g m (.string (mtx (k+m))));have HX:=zh (xA O2 T2);clear O T O1 T1 O2 T2 hb HT hsl;go_wp2
   go_roundw
   .exact ⟨m+1,by omega,by go_num,by go_num,HX.o.1,HX.o.2⟩
   .simp [intOf];omega
  .have e:Zh (m=n):=by show m=n;omega
   have HX:=zh (xA O T);clear O T;go_wp2;go_ret;refine ⟨aI (by rw [e.o]),?_,HX.o.2⟩;have:=HX.o.1;rw [e.o,<- hl,aEz] at this;rw [hl] at this;exact this
theorem oO (a:qO)(cap k:Nat)(w:qw):
 qC 106 #[qS a 0 cap,qI k] w fun e w'=>e=.returned (qI k)/\w=w':=by
 go_enter Tryz.func106,Tryz.ntmps106
 go_wp2;go_loop [1,5] (fun x i=>i=qI 0/\x=qI k) (fun _ _=>0)
 .exact ⟨rfl,rfl⟩
 .obtain ⟨rfl,rfl⟩:=hrel;go_wp2;go_ret;exact ⟨rfl,rfl⟩
theorem qG (a:qO)(n cap base:Nat)(zs:List ByteArray)(k:Nat)(w:qw)(h:OG 9 1 clT w base (qS a n cap) zs)(hn:n<=5000000)(h0:0<k)(hk:k<=20000000):
 qC 106 #[qS a n cap,qI k] w fun e w'=>e=.returned (qI ((k+n:Nat):Int))/\OG 9 1 clT w' base (qS a n cap) (fM k n)/\Turn (fun j=>(qS a n cap).ownBlock=some j) w w':=by
 by_cases h1:n=0
 .subst h1;refine (oO a cap k w).mono fun e w' he=>?_;obtain ⟨rfl,rfl⟩:=he;have hz:zs=[]:=xE (aS h).1;subst hz;exact ⟨rfl,h,Turn.refl _ _⟩
 .obtain ⟨g,rfl⟩:=gQ h h1;refine (oP g n cap base zs k w h hn h0 hk).mono fun e w' he=>⟨he.1,he.2.1,he.2.2.mono ?_⟩;intro j hj;subst hj;rfl
theorem aIp (k n m:Nat)(h:m<n):((fM k n).flatMap clT)[m]?=some (.string (mtx (k+m))):=by
 rw [uK];simp [fM,h]
theorem aPp {w:qw}{xs:List ByteArray}(h:OG 9 1 clT w base (qS (qP g) n c) xs)(m:Nat)(u:Value)(hu:(xs.flatMap clT)[m]?=some u):∀ W,qY w W->W.cell? (qR g m)=some u:=fun W hb=>by
 have O:=OG.bw h hb;obtain ⟨hl,_,_,h4⟩:=aS O
 have hn:n≠0:=fun e=>by
  subst e;have:xs=[]:=xE hl;subst this;simp at hu
 obtain ⟨g',hg',hc⟩:=h4 hn;simp at hg';subst hg';exact hc m u hu
theorem rC (a:qO)(n cap base:Nat)(k:Nat)(w:qw)(h:OG 9 1 clT w base (qS a n cap) (fM k n))(hn:n<=5000000)(h0:0<k)(hk:k<=20000000):
 qC 111 #[qS a n cap,qI k] w (qB w (qI ((k+n:Nat):Int))):=by
 have HO:=zh h;clear h;go_enter Tryz.func111,Tryz.ntmps111
 go_wp2;go_loopw [1,5] (fun x i wr=>∃ m:Nat,m<=n/\i=qI m/\x=qI ((k+m:Nat):Int)/\qY w wr) (fun _ i _=>n-(intOf i).toNat)
 .exact ⟨0,xC _,rfl,rfl,brf⟩
 .obtain ⟨m,hm,rfl,rfl,B⟩:=hrel;by_cases hlt:m<n
  .have hlt':(m:Int)<(n:Int):=by omega
   obtain ⟨g,rfl⟩:=gQ HO.o (by omega);have HC0:=aPp HO.o m _ (aIp k n m hlt);have HT:=zh (fun W=>dN (k+m) W);have HKM:=zh (show (((k+m:Nat):Int))+1=((k+(m+1):Nat):Int) by omega);obtain ⟨s,hs⟩:=eqx (mtx (k+m));rw [<- hs] at HC0 HT;have HC:=zh HC0;clear hs HC0;have c0:=HC.o wr B;have hne:(s.toList !=s.toList)=false:=by simp
   have HB:=zh B;clear B;go_wp2_with fail
   go_region_held3 (fun w'=>w'.cell? (qR g m)=some (.string s)) (go_keep) (first
    | (go_at_call 103;refine (HT.o _).mono ?_;rintro e w1 ⟨rfl,hb⟩;replace hb:=HB.o.trans ((dH hb).mono HB.o.size);have c1:=HC.o w1 hb;have HB1:=zh hb;clear hb))
   clear c0 HB HC HT;go_wp2
   go_roundw
   .exact ⟨m+1,by omega,by go_num,by go_num,HB1.o⟩
   .simp [intOf];omega
  .have e:Zh (m=n):=by show m=n;omega
   have HX:=zh B;clear B;go_wp2;go_ret;exact ⟨aI (by rw [e.o]),HX.o⟩
theorem pD:∀ (xs:List Ex) (i:Nat) (x:Ex),i<xs.length->(((xs.flatMap clX).set (i*3) (.string x.1)).set (i*3+1) (qI x.2.1)).set (i*3+2) (qI x.2.2)=(xs.set i x).flatMap clX
 | [],i,x,h=>by simp at h
 | y::ys,0,x,h=>by simp [clX]
 | y::ys,i+1,x,h=>by
   have ih:=pD ys i x (by simpa using h);rw [show (i+1)*3=i*3+1+1+1 by omega];simp only [xT,clX,List.cons_append,List.nil_append,List.set_cons_succ];rw [<- ih]
theorem aNb {w:qw}(h:OG 163 3 clX w base (qS (qP g) n c) xs)(i:Nat)(hi:i<n)(s:ByteArray)(p q:Int):OG 163 3 clX (((w.setCell (qR g (i*3)) (.string s)).setCell (qR g (i*3+1)) (qI p)).setCell (qR g (i*3+2)) (qI q)) base (qS (qP g) n c) (xs.set i (s,p,q)):=by
 obtain ⟨hl,⟨h0,_⟩|⟨g',cap',cur,hv,hg,hh,h1,h2,h3,h4⟩⟩:=h
 .simp at h0
 .simp at hv;obtain ⟨rfl,rfl,rfl⟩:=hv;refine ⟨?_,.inr ⟨g,c,((cur.setIfInBounds (i*3) (.string s)).setIfInBounds (i*3+1) (qI p)).setIfInBounds (i*3+2) (qI q),by simp,hg,Blk.set (Blk.set (Blk.set (w:=w) hh _ _) _ _) _ _,by simpa using h1,h2,by simpa using h3,?_⟩⟩
  .rw [<- pD xs i (s,p,q) hi];simpa using hl
  .rw [List.length_set,xW,xW,xW,List.take_set,List.take_set,List.take_set,h4];exact pD xs i (s,p,q) hi
def gE (k n:Nat):List Ex:=(List.range n).map fun i=>(mtx (k+3*i),((k+3*i+1:Nat):Int),((k+3*i+2:Nat):Int))
def eJ (zs:List Ex)(k m:Nat):List Ex:=(List.range zs.length).map fun i=>if i<m then (mtx (k+3*i),((k+3*i+1:Nat):Int),((k+3*i+2:Nat):Int)) else zs.getD i zE
theorem aEw (zs:List Ex)(k m:Nat):(eJ zs k m).length=zs.length:=by simp [eJ]
theorem aC4 (zs:List Ex)(k:Nat):eJ zs k 0=zs:=by
 apply List.ext_getElem
 .simp [eJ]
 .intro i h1 h2;simp [eJ,h2]
theorem aEx (zs:List Ex)(k:Nat):eJ zs k zs.length=gE k zs.length:=by
 apply List.ext_getElem
 .simp [eJ,gE]
 .intro i h1 h2;simp [gE] at h2;simp [eJ,gE,h2]
theorem aEv (zs:List Ex)(k m:Nat)(h:m<zs.length):(eJ zs k m).set m (mtx (k+3*m),((k+3*m+1:Nat):Int),((k+3*m+2:Nat):Int))=eJ zs k (m+1):=by
 apply List.ext_getElem
 .simp [eJ]
 .intro i h1 h2;simp only [eJ,List.getElem_set,List.getElem_map,List.getElem_range];by_cases hik:m=i
  .subst hik;simp
  .by_cases h3:i<m
   .simp [hik,h3,show i<m+1 by omega]
   .simp [hik,h3,show ¬ i<m+1 by omega]
theorem oT (g n cap base:Nat)(zs:List Ex)(k:Nat)(w:qw)(h:OG 163 3 clX w base (qS (qP g) n cap) zs)(hn:n<=5000000)(h0:0<k)(hk:k<=20000000):
 qC 107 #[qS (qP g) n cap,qI k] w fun e w'=>e=.returned (qI ((k+3*n:Nat):Int))/\OG 163 3 clX w' base (qS (qP g) n cap) (gE k n)/\Turn (fun j=>j=g) w w':=by
 have hl:=(aS h).1;go_enter Tryz.func107,Tryz.ntmps107
 go_wp2;go_loopw [1,5] (fun x i wr=>∃ m:Nat,m<=n/\i=qI m/\x=qI ((k+3*m:Nat):Int)/\OG 163 3 clX wr base (qS (qP g) n cap) (eJ zs k m)/\Turn (fun j=>j=g) w wr) (fun _ i _=>n-(intOf i).toNat)
 .exact ⟨0,xC _,rfl,rfl,by rw [aC4];exact h,Turn.refl _ _⟩
 .obtain ⟨m,hm,rfl,rfl,O,T⟩:=hrel;by_cases hlt:m<n
  .have hlt':(m:Int)<(n:Int):=by omega
   have HT:=zh (dN (k+3*m) wr);go_wp2_with fail
   refine HT.o.mono ?_;rintro e w1 ⟨rfl,hb⟩;have O1:=O.bw hb;have T1:=T.trans (aJ hb)
   have hsl:Sl (fun j=>j=g) w1 (qP g) n 3:=by
    obtain ⟨_,⟨h0',_⟩|⟨g',cap',cur,hv,_,hh,h1,_,h3,_⟩⟩:=O1
    .simp at h0'
    .simp at hv;obtain ⟨rfl,rfl,rfl⟩:=hv;refine Sl.ofBlk (c:=0) hh rfl ?_;rw [aEw] at h1;omega
   obtain ⟨⟨u,c0⟩,f0,_⟩:=hsl.cell (by omega) (m*3) (by omega);obtain ⟨⟨u1,c1⟩,f1,_⟩:=hsl.cell (by omega) (m*3+1) (by omega);obtain ⟨⟨u2,c2⟩,f2,_⟩:=hsl.cell (by omega) (m*3+2) (by omega);rw [Nat.zero_add] at c0 f0 c1 f1 c2 f2
   have HX:=zh (fun (p q:Int) (hp:p=((k+3*m+1:Nat):Int)) (hq:q=((k+3*m+2:Nat):Int))=>by
    have O2:=aNb O1 m hlt (mtx (k+3*m)) p q;rw [hp,hq,aEv zs k m (by omega),<- hp,<- hq] at O2;have T2:=((T1.trans (aC w1 g (m*3) (.string (mtx (k+3*m))))).trans (aC _ g (m*3+1) (qI p))).trans (aC _ g (m*3+2) (qI q))
    exact xA O2 T2)
   clear O T O1 T1 hb HT hsl;go_wp2
   go_roundw
   .exact ⟨m+1,by omega,by go_num,by go_num,(HX.o _ _ (by go_num) (by go_num)).1,(HX.o _ _ (by go_num) (by go_num)).2⟩
   .simp [intOf];omega
  .have e:Zh (m=n):=by show m=n;omega
   have HX:=zh (xA O T);clear O T;go_wp2;go_ret;refine ⟨aI (by rw [e.o]),?_,HX.o.2⟩;have:=HX.o.1;rw [e.o,<- hl,aEx] at this;rw [hl] at this;exact this
theorem oS (a:qO)(cap k:Nat)(w:qw):
 qC 107 #[qS a 0 cap,qI k] w fun e w'=>e=.returned (qI k)/\w=w':=by
 go_enter Tryz.func107,Tryz.ntmps107
 go_wp2;go_loop [1,5] (fun x i=>i=qI 0/\x=qI k) (fun _ _=>0)
 .exact ⟨rfl,rfl⟩
 .obtain ⟨rfl,rfl⟩:=hrel;go_wp2;go_ret;exact ⟨rfl,rfl⟩
theorem rA (a:qO)(n cap base:Nat)(zs:List Ex)(k:Nat)(w:qw)(h:OG 163 3 clX w base (qS a n cap) zs)(hn:n<=5000000)(h0:0<k)(hk:k<=20000000):
 qC 107 #[qS a n cap,qI k] w fun e w'=>e=.returned (qI ((k+3*n:Nat):Int))/\OG 163 3 clX w' base (qS a n cap) (gE k n)/\Turn (fun j=>(qS a n cap).ownBlock=some j) w w':=by
 by_cases h1:n=0
 .subst h1;refine (oS a cap k w).mono fun e w' he=>?_;obtain ⟨rfl,rfl⟩:=he;have hz:zs=[]:=xE (aS h).1;subst hz;exact ⟨rfl,h,Turn.refl _ _⟩
 .obtain ⟨g,rfl⟩:=gQ h h1;refine (oT g n cap base zs k w h hn h0 hk).mono fun e w' he=>⟨he.1,he.2.1,he.2.2.mono ?_⟩;intro j hj;subst hj;rfl
theorem aPo {w:qw}(h:OG 163 3 clX w base (qS (qP g) n c) xs)(m:Nat)(hm:m<n):∀ W,qY w W->W.cell? (qR g (m*3))=some (.string (xs.getD m zE).1)/\W.cell? (qR g (m*3+1))=some (qI (xs.getD m zE).2.1)/\W.cell? (qR g (m*3+2))=some (qI (xs.getD m zE).2.2):=fun W hb=>by
 have O:=OG.bw h hb;obtain ⟨hl,_,_,h4⟩:=aS O;obtain ⟨g',hg',hc⟩:=h4 (by omega);simp at hg';subst hg';obtain ⟨e0,e1,e2⟩:=uJ xs m (by omega);exact ⟨hc _ _ e0,hc _ _ e1,hc _ _ e2⟩
theorem aIo (k n m:Nat)(h:m<n):(gE k n).getD m zE=(mtx (k+3*m),((k+3*m+1:Nat):Int),((k+3*m+2:Nat):Int)):=by simp [gE,xB,h]
theorem rH (a:qO)(n cap base:Nat)(k:Nat)(w:qw)(h:OG 163 3 clX w base (qS a n cap) (gE k n))(hn:n<=5000000)(h0:0<k)(hk:k<=20000000):
 qC 112 #[qS a n cap,qI k] w (qB w (qI ((k+3*n:Nat):Int))):=by
 have HO:=zh h;clear h;go_enter Tryz.func112,Tryz.ntmps112
 go_wp2;go_loopw [1,5] (fun x i wr=>∃ m:Nat,m<=n/\i=qI m/\x=qI ((k+3*m:Nat):Int)/\qY w wr) (fun _ i _=>n-(intOf i).toNat)
 .exact ⟨0,xC _,rfl,rfl,brf⟩
 .obtain ⟨m,hm,rfl,rfl,B⟩:=hrel;by_cases hlt:m<n
  .have hlt':(m:Int)<(n:Int):=by omega
   obtain ⟨g,rfl⟩:=gQ HO.o (by omega);have HC0:=aPo HO.o m hlt;rw [aIo k n m hlt] at HC0;have HT:=zh (fun W=>dN (k+3*m) W);obtain ⟨K,hK⟩:∃ K:Nat,K=k+3*m:=⟨_,rfl⟩;have HK:=zh hK;have hKb:K<=67108000:=by omega
   rw [<- hK] at HC0 HT ⊢;obtain ⟨s,hs⟩:=eqx (mtx K);rw [<- hs] at HC0 HT;have HC:=zh HC0;clear hs HC0 hK;obtain ⟨c0,c1,c2⟩:=HC.o wr B;have hne:(s.toList !=s.toList)=false:=by simp
   have HB:=zh B;clear B;go_wp2_with fail
   go_region_held3 (fun w'=>w'.cell? (qR g (m*3))=some (.string s)) (go_keep) (first
    | (go_at_call 103;refine (HT.o _).mono ?_;rintro e w1 ⟨rfl,hb⟩;replace hb:=HB.o.trans ((dH hb).mono HB.o.size);obtain ⟨d0,d1,d2⟩:=HC.o w1 hb;have HB1:=zh hb;clear hb))
   clear c0 c1 c2 HB HC HT;have e1:((K:Int)+1 !=((K+1:Nat):Int))=false:=by simp
   have e2:((K:Int)+1+1 !=((K+2:Nat):Int))=false:=by simp;omega
   go_wp2
   go_roundw
   .exact ⟨m+1,by omega,by go_num,by rw [HK.o];go_num,HB1.o⟩
   .simp [intOf];omega
  .have e:Zh (m=n):=by show m=n;omega
   have HX:=zh B;clear B;go_wp2;go_ret;exact ⟨aI (by rw [e.o]),HX.o⟩
def Sr (f:Nat->qO×Nat×Nat)(n j:Nat):Prop:=∃ i,i<n/\(Value.slice (f i).1 (f i).2.1 (f i).2.2).ownBlock=some j
structure Rr (w:qw)(base:Nat)(a:qO)(n:Nat)(f:Nat->qO×Nat×Nat)(X:Nat->List Int):Prop where
 head:n≠0->∃ g cs,a=some (qR g 0)/\¬ Sr f n g/\Blk w g cs 25/\∀ i,i<n->cs[i]?=some (.slice (f i).1 (f i).2.1 (f i).2.2)
 rows:∀ i,i<n->OI w base (.slice (f i).1 (f i).2.1 (f i).2.2) (X i)
 apart:∀ i j,i<n->j<n->i≠j->∀ k,(Value.slice (f i).1 (f i).2.1 (f i).2.2).ownBlock=some k->(Value.slice (f j).1 (f j).2.1 (f j).2.2).ownBlock≠some k
def mrk (k:Nat)(f:Nat->qO×Nat×Nat)(i:Nat):List Int:=bG (k+bL f i) (f i).2.1
theorem Rr.kept {w w':qw}(h:Rr w base a n f X)(t:Turn S w w')(hs:∀ i,i<n->∀ k,(Value.slice (f i).1 (f i).2.1 (f i).2.2).ownBlock=some k->¬ S k)(hh:n≠0->∀ g cs,a=some (qR g 0)->Blk w g cs 25->¬ S g):Rr w' base a n f X:=
 ⟨fun hn=>by obtain ⟨g,cs,ha,h1,h2,h3⟩:=h.head hn;exact ⟨g,cs,ha,h1,aF t h2 (hh hn g cs ha h2),h3⟩,fun i hi=>aV t (h.rows i hi) (hs i hi),h.apart⟩
theorem wD (a:qO)(n cap k base:Nat)(f:Nat->qO×Nat×Nat)(X:Nat->List Int)(w:qw)(h:Rr w base a n f X)(hn:n<=5000000)(hs:bL f n<=5000000)(hk:k<=10000000):
 qC 104 #[qS a n cap,qI k] w fun e w'=>e=.returned (qI ((k+bL f n:Nat):Int))/\Rr w' base a n f (mrk k f)/\Turn (Sr f n) w w':=by
 have HH:=zh h;clear h;go_enter Tryz.func104,Tryz.ntmps104
 go_wp2;go_loopw [1,5] (fun x i wr=>∃ m:Nat,m<=n/\i=qI m/\x=qI ((k+bL f m:Nat):Int)/\Rr wr base a n f (fun i=>if i<m then mrk k f i else X i)/\Turn (Sr f n) w wr) (fun _ i _=>n-(intOf i).toNat)
 .exact ⟨0,xC _,rfl,rfl,HH.o,Turn.refl _ _⟩
 .obtain ⟨m,hm,rfl,rfl,R,T⟩:=hrel;by_cases hlt:m<n
  .have hlt':(m:Int)<(n:Int):=by omega
   obtain ⟨g,cs,rfl,hng,hb,hc⟩:=R.head (by omega);have c0:=(hb.cell m).trans (hc m hlt);have hle:=rM f n m hlt;have hr:=R.rows m hlt;simp only [Nat.lt_irrefl,if_false] at hr;have HMK:=zh (fU (f m).1 (f m).2.1 (f m).2.2 base (X m) (k+bL f m) wr hr)
   have HFIN:=zh (fun (w1:qw) (O1:OI w1 base (.slice (f m).1 (f m).2.1 (f m).2.2) (bG (k+bL f m) (f m).2.1)) (T1:Turn (fun j=>(Value.slice (f m).1 (f m).2.1 (f m).2.2).ownBlock=some j) wr w1)=>show Rr w1 base (qP g) n f (fun i=>if i<m+1 then mrk k f i else X i)/\Turn (Sr f n) w w1 from by
    refine ⟨⟨fun _=>⟨g,cs,rfl,hng,aF T1 hb (fun e=>hng ⟨m,hlt,e⟩),hc⟩,fun i hi=>?_,R.apart⟩,T.trans (T1.mono (fun j hj=>⟨m,hlt,hj⟩))⟩;by_cases e:i=m
    .subst e;simp only [show i<i+1 by omega,if_true];exact O1
    .have hi':=aV T1 (R.rows i hi) (fun q hq hq'=>R.apart i m hi hlt e q hq hq');by_cases e2:i<m
     .simp only [e2,if_true,show i<m+1 by omega] at hi' ⊢;exact hi'
     .simp only [e2,if_false,show ¬ i<m+1 by omega] at hi' ⊢
      exact hi')
   have HSU:Zh (bL f (m+1)=bL f m+(f m).2.1):=rfl;clear R T hb hc hr;generalize bL f m=sm at *;generalize f m=fm at *;obtain ⟨fa,fn,fc⟩:=fm;dsimp only at *;go_wp2_with fail
   refine HMK.o.mono ?_;rintro e w1 ⟨rfl,O1,T1⟩;have HX:=zh (HFIN.o w1 O1 T1);clear O1 T1 HFIN HMK c0;go_wp2
   go_roundw
   .exact ⟨m+1,by omega,by go_num,by rw [HSU.o];go_num,HX.o.1,HX.o.2⟩
   .simp [intOf];omega
  .have e:Zh (m=n):=by show m=n;omega
   have HX:=zh (xA R T);clear R T;go_wp2;go_ret;refine ⟨aI (by rw [e.o]),?_,HX.o.2⟩;have R:=HX.o.1;refine ⟨R.head,fun i hi=>?_,R.apart⟩;have:=R.rows i hi;rw [e.o] at this;simp only [hi,if_true] at this;exact this
theorem wP (a:qO)(n cap k base:Nat)(f:Nat->qO×Nat×Nat)(w:qw)(h:Rr w base a n f (mrk k f))(hn:n<=5000000)(hs:bL f n<=5000000)(hk:k<=10000000):
 qC 109 #[qS a n cap,qI k] w fun e w'=>e=.returned (qI ((k+bL f n:Nat):Int))/\w=w':=by
 have HH:=zh h;clear h;go_enter Tryz.func109,Tryz.ntmps109
 go_wp2;go_loop [1,5] (fun x i=>∃ m:Nat,m<=n/\i=qI m/\x=qI ((k+bL f m:Nat):Int)) (fun _ i=>n-(intOf i).toNat)
 .exact ⟨0,xC _,rfl,rfl⟩
 .obtain ⟨m,hm,rfl,rfl⟩:=hrel;by_cases hlt:m<n
  .have hlt':(m:Int)<(n:Int):=by omega
   obtain ⟨g,cs,rfl,hng,hb,hc⟩:=HH.o.head (by omega);have c0:=(hb.cell m).trans (hc m hlt);have hle:=rM f n m hlt;have hr:=(HH.o.rows m hlt).is;unfold mrk at hr;have HMK:=zh (fW (f m).1 (f m).2.1 (f m).2.2 (k+bL f m) w hr);have HSU:Zh (bL f (m+1)=bL f m+(f m).2.1):=rfl;clear hb hc hr;generalize bL f m=sm at *;generalize f m=fm at *;obtain ⟨fa,fn,fc⟩:=fm;dsimp only at *;go_wp2_with fail
   refine HMK.o.mono ?_;rintro e w1 ⟨rfl,rfl⟩;have hnn:¬ (((k+sm+fn:Nat):Int)<0):=by omega
   clear HMK;go_wp2
   go_round
   .exact ⟨m+1,by omega,by go_num,by rw [HSU.o];go_num⟩
   .simp [intOf];omega
  .have e:Zh (m=n):=by show m=n;omega
   go_wp2;go_ret;exact ⟨aI (by rw [e.o]),rfl⟩
def cJ (k n:Nat):List Int:=(List.range n).map fun i=>((k+i:Nat):Int)%256
def kQ (zs:qi)(k m:Nat):List Int:=(List.range zs.length).map fun i=>if i<m then ((k+i:Nat):Int)%256 else zs.getD i 0
theorem aEu (zs:qi)(k:Nat):kQ zs k 0=zs:=by
 apply List.ext_getElem
 .simp [kQ]
 .intro i h1 h2;simp [kQ,h2]
theorem aIk (zs:qi)(k:Nat):kQ zs k zs.length=cJ k zs.length:=by
 apply List.ext_getElem
 .simp [kQ,cJ]
 .intro i h1 h2;simp [cJ] at h2;simp [kQ,cJ,h2]
theorem aIj (zs:qi)(k m:Nat)(h:m<zs.length):(kQ zs k m).set m (((k+m:Nat):Int)%256)=kQ zs k (m+1):=by
 apply List.ext_getElem
 .simp [kQ]
 .intro i h1 h2;simp only [kQ,List.getElem_set,List.getElem_map,List.getElem_range];by_cases hik:m=i
  .subst hik;simp
  .by_cases h3:i<m
   .simp [hik,h3,show i<m+1 by omega]
   .simp [hik,h3,show ¬ i<m+1 by omega]
theorem tS (g n cap base:Nat)(zs:qi)(k:Nat)(w:qw)(h:OB w base (qS (qP g) n cap) zs)(hn:n<=5000000)(hk:k<=20000000):
 qC 105 #[qS (qP g) n cap,qI k] w fun e w'=>e=.returned (qI ((k+n:Nat):Int))/\OB w' base (qS (qP g) n cap) (cJ k n)/\Turn (fun j=>j=g) w w':=by
 have hl:=h.bs.1;go_enter Tryz.func105,Tryz.ntmps105
 go_wp2;go_loopw [1,5] (fun x i wr=>∃ m:Nat,m<=n/\i=qI m/\x=qI ((k+m:Nat):Int)/\OB wr base (qS (qP g) n cap) (kQ zs k m)/\Turn (fun j=>j=g) w wr) (fun _ i _=>n-(intOf i).toNat)
 .exact ⟨0,xC _,rfl,rfl,by rw [aEu];exact h,Turn.refl _ _⟩
 .obtain ⟨m,hm,rfl,rfl,hO,hT⟩:=hrel;by_cases hlt:m<n
  .have hlt':(m:Int)<(n:Int):=by omega
   obtain ⟨u,hu⟩:=(nK hO).cell m hlt;have hf:=(nK hO).frozen m;have hset:=oM hO m hlt (((k+m:Nat):Int)%256) (by omega);rw [aIj zs k m (by omega)] at hset
   have hT2:Turn (fun j=>j=g) w (wr.setCell (qR g m) (.int .u8 (((k+m:Nat):Int)%256))):=
    hT.trans ⟨rfl,rfl,rfl,by rw [aL];exact aN,fun j hj hs=>heap_setCell_other _ _ _ _ hs⟩
   have HO:=zh hset;have HT:=zh hT2;clear hset hT2 hO hT;obtain ⟨K,hK⟩:∃ K:Int,K=((k+m:Nat):Int):=⟨_,rfl⟩;have hK0:0<=K:=by omega
   have hK1:K<=67108864:=by omega
   have HK:=zh (show K+1=((k+(m+1):Nat):Int) by omega);rw [<- hK] at HO HT ⊢;clear hK;go_wp2
   go_roundw
   .exact ⟨m+1,by omega,by go_num,by rw [HK.o],HO.o,HT.o⟩
   .simp [intOf];omega
  .have e:Zh (m=n):=by show m=n;omega
   go_wp2;go_ret;exact ⟨aI (by rw [e.o]),by rw [e.o,<- hl,aIk] at hO;rw [hl] at hO;exact hO,hT⟩
theorem tR (a:qO)(cap k:Nat)(w:qw):
 qC 105 #[qS a 0 cap,qI k] w fun e w'=>e=.returned (qI k)/\w=w':=by
 go_enter Tryz.func105,Tryz.ntmps105
 go_wp2;go_loop [1,5] (fun x i=>i=qI 0/\x=qI k) (fun _ _=>0)
 .exact ⟨rfl,rfl⟩
 .obtain ⟨rfl,rfl⟩:=hrel;go_wp2;go_ret;exact ⟨rfl,rfl⟩
theorem eP (a:qO)(n cap base:Nat)(zs:qi)(k:Nat)(w:qw)(h:OB w base (qS a n cap) zs)(hn:n<=5000000:=by omega)(hk:k<=20000000:=by omega):
 qC 105 #[qS a n cap,qI k] w fun e w'=>e=.returned (qI ((k+n:Nat):Int))/\OB w' base (qS a n cap) (cJ k n)/\Turn (fun j=>(qS a n cap).ownBlock=some j) w w':=by
 by_cases h0:n=0
 .subst h0;refine (tR a cap k w).mono fun e w' he=>?_;obtain ⟨rfl,rfl⟩:=he;have hz:zs=[]:=xE h.bs.1;subst hz;exact ⟨rfl,h,Turn.refl _ _⟩
 .obtain ⟨g,rfl⟩:∃ g,a=some ⟨g,0,none⟩:=by
   obtain ⟨hl,⟨h0',_⟩|⟨g,cap',cur,hv,_⟩⟩:=h.1
   .simp at h0';exact absurd h0'.2.1 h0
   .simp at hv;exact ⟨g,hv.1⟩
  refine (tS g n cap base zs k w h hn hk).mono fun e w' he=>⟨he.1,he.2.1,he.2.2.mono ?_⟩;intro j hj;subst hj;rfl
theorem aE2 (k n m:Nat)(h:m<n):(cJ k n).getD m 0=((k+m:Nat):Int)%256:=by simp [cJ,xB,h]
theorem eV (a:qO)(n cap:Nat)(k:Nat)(w:qw)(h:BS w a n cap (cJ k n))(hn:n<=5000000:=by omega)(hk:k<=20000000:=by omega):
 qC 110 #[qS a n cap,qI k] w fun e w'=>e=.returned (qI ((k+n:Nat):Int))/\w=w':=by
 go_enter Tryz.func110,Tryz.ntmps110
 go_wp2;go_loop [1,5] (fun x i=>∃ m:Nat,m<=n/\i=qI m/\x=qI ((k+m:Nat):Int)) (fun _ i=>n-(intOf i).toNat)
 .exact ⟨0,xC _,rfl,rfl⟩
 .obtain ⟨m,hm,rfl,rfl⟩:=hrel;by_cases hlt:m<n
  .have hlt':(m:Int)<(n:Int):=by omega
   obtain ⟨b,off,rfl⟩:=h.some (by omega);have hc:=h.at m hlt;rw [aE2 k n m hlt] at hc;obtain ⟨K,hK⟩:∃ K:Int,K=((k+m:Nat):Int):=⟨_,rfl⟩;have hK0:0<=K:=by omega
   have hK1:K<=67108864:=by omega
   have HK:=zh (show K+1=((k+(m+1):Nat):Int) by omega);rw [<- hK] at hc ⊢;have hne:(K%256 !=K%256)=false:=by simp
   clear hK;go_wp2
   go_round
   .exact ⟨m+1,by omega,by go_num,by rw [HK.o]⟩
   .simp [intOf];omega
  .have e:Zh (m=n):=by show m=n;omega
   go_wp2;go_ret;exact ⟨aI (by rw [e.o]),rfl⟩
def rK (v1 v2 v3:Value)(j:Nat):Prop:=v1.ownBlock=some j\/v2.ownBlock=some j\/v3.ownBlock=some j
def Byt (zs:qi):Prop:=∀ z∈zs,0<=z/\z<=255
structure PmG (P:PMod):Prop where
 n:P.nm.size<=1048576
 t:P.tz.length<=1048576/\∀ x∈P.tz,wfi x
 b:P.bl.length<=1048576/\∀ l∈P.bl,l.length<=1048576/\∀ x∈l,wfi x
 d:P.dz.length<=1048576/\Byt P.dz
 s:wfi P.bss
 r:P.rz.length<=1048576/\∀ x∈P.rz,wfi x
 i:P.ss.length<=1048576/\∀ s∈P.ss,s.size<=1048576
 e:P.es.length<=1048576/\∀ x∈P.es,x.1.size<=1048576
theorem Blk.eight' {w:qw}{v0 v2 v4:Value}{t:TypeId}(h:Blk w g #[v0,v1,v2,v3,v4,v5,v6,v7] t):w.cell? (qR g 0)=some v0/\w.cell? (qR g 1)=some v1/\w.cell? (qR g 2)=some v2/\w.cell? (qR g 3)=some v3/\w.cell? (qR g 4)=some v4/\w.cell? (qR g 5)=some v5/\w.cell? (qR g 6)=some v6/\w.cell? (qR g 7)=some v7:=
 ⟨h.cell 0,h.cell 1,h.cell 2,h.cell 3,h.cell 4,h.cell 5,h.cell 6,h.cell 7⟩
structure ModO (W:qw)(base:Nat)(P:PMod)(a1:qO)(c1:Nat)(a2:qO)(c2:Nat)(bl:List Bk)(a3:qO)(c3:Nat)(a5:qO)(c5:Nat)(a6:qO)(c6:Nat)(a7:qO)(c7:Nat):Prop where
 t:OG 3 1 clI W base (qS a1 P.tz.length c1) P.tz
 b:OBk W base (qS a2 bl.length c2) bl
 bls:bl.map (fun B=>B.2.2.2)=P.bl
 d:OB W base (qS a3 P.dz.length c3) P.dz
 r:OG 3 1 clI W base (qS a5 P.rz.length c5) P.rz
 i:OG 9 1 clT W base (qS a6 P.ss.length c6) P.ss
 e:OG 163 3 clX W base (qS a7 P.es.length c7) P.es
 tb:∀ k,(qS a1 P.tz.length c1).ownBlock=some k->∀ B∈bl,(qS B.1 B.2.1 B.2.2.1).ownBlock≠some k
 tr:∀ k,(qS a1 P.tz.length c1).ownBlock=some k->(qS a5 P.rz.length c5).ownBlock≠some k
 br:∀ k,(qS a5 P.rz.length c5).ownBlock=some k->∀ B∈bl,(qS B.1 B.2.1 B.2.2.1).ownBlock≠some k
theorem ModO.mdG {W:qw}{P:PMod}{a1:qO}{c1:Nat}{c2:Nat}{a3:qO}{c3:Nat}{a5:qO}{c5:Nat}{a6:qO}{c6:Nat}{a7:qO}{c7:Nat}(h:ModO W base P a1 c1 a2 c2 bl a3 c3 a5 c5 a6 c6 a7 c7)(R:PmG P):
 MD W P.nm a1 P.tz.length c1 P.tz a2 bl.length c2 bl a3 P.dz.length c3 P.dz P.bss a5 P.rz.length c5 P.rz a6 P.ss.length c6 P.ss a7 P.es.length c7 P.es where
 n:=R.n
 t:=aC1 h.t R.t.2
 b:=aNd h.b (fun B hB z hz=>by
  have hm:B.2.2.2∈P.bl:=by rw [<- h.bls];exact List.mem_map.2 ⟨B,hB,rfl⟩
  exact (R.b.2 _ hm).2 z hz)
 d:=h.d.bs
 s:=R.s
 r:=aC1 h.r R.r.2
 i:=aQj h.i R.i.2
 e:=aQk h.e R.e.2
structure M6 (W:qw)(base:Nat)(v1 v3 v5 v6 v7:Value)(a2:qO)(bn:Nat)(f:Nat->qO×Nat×Nat)(T:qi)(X:Nat->List Int)(D R:qi)(I:List ByteArray)(E:List Ex):Prop where
 t:OI W base v1 T
 b:Rr W base a2 bn f X
 d:OB W base v3 D
 r:OI W base v5 R
 i:OG 9 1 clT W base v6 I
 e:OG 163 3 clX W base v7 E
 tr:∀ k,v1.ownBlock=some k->v5.ownBlock≠some k
 tb:∀ k,v1.ownBlock=some k->¬ Sr f bn k
 rb:∀ k,v5.ownBlock=some k->¬ Sr f bn k
theorem aX {w:qw}{t t':TypeId}{xs:List Value}(h:w.ownsRow base t sz v n xs)(hk:v.ownBlock=some k)(hb:Blk w k cs t')(hne:t≠t'):False:=by
 obtain ⟨c1,k1⟩:=aD h hk;exact hne (aH k1 hb)
theorem Rr.kind {w:qw}(h:Rr w base a n f X){j:Nat}(hj:Sr f n j):∃ cs,Blk w j cs 3:=by
 obtain ⟨i,hi,e⟩:=hj;exact aD (h.rows i hi).1 e
theorem M6.set_t {W W':qw}{T:qi}{D R:qi}{T':qi}(h:M6 W base v1 v3 v5 v6 v7 a2 bn f T X D R I E)(O:OI W' base v1 T')(t:Turn (fun j=>v1.ownBlock=some j) W W'):M6 W' base v1 v3 v5 v6 v7 a2 bn f T' X D R I E:=
 ⟨O,(h.b.kept t (fun i hi k hk s=>h.tb k s ⟨i,hi,hk⟩) (fun hn g cs ha hb s=>by obtain ⟨c,kb⟩:=(aD h.t.1 s);exact absurd (aH hb kb) (by decide))),(aU t h.d (fun k hk s=>by obtain ⟨c,kb⟩:=(aD h.t.1 s);exact aX h.d.1 hk kb (by decide))),(aV t h.r (fun k hk s=>h.tr k s hk)),(h.i.kept t (fun k hk s=>by obtain ⟨c,kb⟩:=(aD h.t.1 s);exact aX h.i hk kb (by decide))),(h.e.kept t (fun k hk s=>by obtain ⟨c,kb⟩:=(aD h.t.1 s);exact aX h.e hk kb (by decide))),h.tr,h.tb,h.rb⟩
theorem M6.set_b {W W':qw}{T:qi}{D R:qi}{X':Nat->List Int}(h:M6 W base v1 v3 v5 v6 v7 a2 bn f T X D R I E)(O:Rr W' base a2 bn f X')(t:Turn (fun j=>Sr f bn j) W W'):M6 W' base v1 v3 v5 v6 v7 a2 bn f T X' D R I E:=
 ⟨(aV t h.t (fun k hk s=>h.tb k hk s)),O,(aU t h.d (fun k hk s=>by obtain ⟨c,kb⟩:=(h.b.kind s);exact aX h.d.1 hk kb (by decide))),(aV t h.r (fun k hk s=>h.rb k hk s)),(h.i.kept t (fun k hk s=>by obtain ⟨c,kb⟩:=(h.b.kind s);exact aX h.i hk kb (by decide))),(h.e.kept t (fun k hk s=>by obtain ⟨c,kb⟩:=(h.b.kind s);exact aX h.e hk kb (by decide))),h.tr,h.tb,h.rb⟩
theorem M6.set_d {W W':qw}{T:qi}{D R:qi}{D':qi}(h:M6 W base v1 v3 v5 v6 v7 a2 bn f T X D R I E)(O:OB W' base v3 D')(t:Turn (fun j=>v3.ownBlock=some j) W W'):M6 W' base v1 v3 v5 v6 v7 a2 bn f T X D' R I E:=
 ⟨(aV t h.t (fun k hk s=>by obtain ⟨c,kb⟩:=(aD h.d.1 s);exact aX h.t.1 hk kb (by decide))),(h.b.kept t (fun i hi k hk s=>by obtain ⟨c,kb⟩:=(aD h.d.1 s);exact aX (h.b.rows i hi).1 hk kb (by decide)) (fun hn g cs ha hb s=>by obtain ⟨c,kb⟩:=(aD h.d.1 s);exact absurd (aH hb kb) (by decide))),O,(aV t h.r (fun k hk s=>by obtain ⟨c,kb⟩:=(aD h.d.1 s);exact aX h.r.1 hk kb (by decide))),(h.i.kept t (fun k hk s=>by obtain ⟨c,kb⟩:=(aD h.d.1 s);exact aX h.i hk kb (by decide))),(h.e.kept t (fun k hk s=>by obtain ⟨c,kb⟩:=(aD h.d.1 s);exact aX h.e hk kb (by decide))),h.tr,h.tb,h.rb⟩
theorem M6.set_r {W W':qw}{T:qi}{D R:qi}{R':qi}(h:M6 W base v1 v3 v5 v6 v7 a2 bn f T X D R I E)(O:OI W' base v5 R')(t:Turn (fun j=>v5.ownBlock=some j) W W'):M6 W' base v1 v3 v5 v6 v7 a2 bn f T X D R' I E:=
 ⟨(aV t h.t (fun k hk s=>h.tr k hk s)),(h.b.kept t (fun i hi k hk s=>h.rb k s ⟨i,hi,hk⟩) (fun hn g cs ha hb s=>by obtain ⟨c,kb⟩:=(aD h.r.1 s);exact absurd (aH hb kb) (by decide))),(aU t h.d (fun k hk s=>by obtain ⟨c,kb⟩:=(aD h.r.1 s);exact aX h.d.1 hk kb (by decide))),O,(h.i.kept t (fun k hk s=>by obtain ⟨c,kb⟩:=(aD h.r.1 s);exact aX h.i hk kb (by decide))),(h.e.kept t (fun k hk s=>by obtain ⟨c,kb⟩:=(aD h.r.1 s);exact aX h.e hk kb (by decide))),h.tr,h.tb,h.rb⟩
theorem M6.set_i {W W':qw}{T:qi}{D R:qi}{I':List ByteArray}(h:M6 W base v1 v3 v5 v6 v7 a2 bn f T X D R I E)(O:OG 9 1 clT W' base v6 I')(t:Turn (fun j=>v6.ownBlock=some j) W W'):M6 W' base v1 v3 v5 v6 v7 a2 bn f T X D R I' E:=
 ⟨(aV t h.t (fun k hk s=>by obtain ⟨c,kb⟩:=(aD h.i s);exact aX h.t.1 hk kb (by decide))),(h.b.kept t (fun i hi k hk s=>by obtain ⟨c,kb⟩:=(aD h.i s);exact aX (h.b.rows i hi).1 hk kb (by decide)) (fun hn g cs ha hb s=>by obtain ⟨c,kb⟩:=(aD h.i s);exact absurd (aH hb kb) (by decide))),(aU t h.d (fun k hk s=>by obtain ⟨c,kb⟩:=(aD h.i s);exact aX h.d.1 hk kb (by decide))),(aV t h.r (fun k hk s=>by obtain ⟨c,kb⟩:=(aD h.i s);exact aX h.r.1 hk kb (by decide))),O,(h.e.kept t (fun k hk s=>by obtain ⟨c,kb⟩:=(aD h.i s);exact aX h.e hk kb (by decide))),h.tr,h.tb,h.rb⟩
theorem M6.set_e {W W':qw}{T:qi}{D R:qi}{E':List Ex}(h:M6 W base v1 v3 v5 v6 v7 a2 bn f T X D R I E)(O:OG 163 3 clX W' base v7 E')(t:Turn (fun j=>v7.ownBlock=some j) W W'):M6 W' base v1 v3 v5 v6 v7 a2 bn f T X D R I E':=
 ⟨(aV t h.t (fun k hk s=>by obtain ⟨c,kb⟩:=(aD h.e s);exact aX h.t.1 hk kb (by decide))),(h.b.kept t (fun i hi k hk s=>by obtain ⟨c,kb⟩:=(aD h.e s);exact aX (h.b.rows i hi).1 hk kb (by decide)) (fun hn g cs ha hb s=>by obtain ⟨c,kb⟩:=(aD h.e s);exact absurd (aH hb kb) (by decide))),(aU t h.d (fun k hk s=>by obtain ⟨c,kb⟩:=(aD h.e s);exact aX h.d.1 hk kb (by decide))),(aV t h.r (fun k hk s=>by obtain ⟨c,kb⟩:=(aD h.e s);exact aX h.r.1 hk kb (by decide))),(h.i.kept t (fun k hk s=>by obtain ⟨c,kb⟩:=(aD h.e s);exact aX h.i hk kb (by decide))),O,h.tr,h.tb,h.rb⟩
theorem M6.bw {W W':qw}{T:qi}{D R:qi}(h:M6 W base v1 v3 v5 v6 v7 a2 bn f T X D R I E)(hb:qY W W'):M6 W' base v1 v3 v5 v6 v7 a2 bn f T X D R I E:=
 ⟨h.t.bw hb,h.b.kept (S:=fun _=>False) (aJ hb) (fun _ _ _ _ s=>s) (fun _ _ _ _ _ s=>s),h.d.bw hb,h.r.bw hb,h.i.bw hb,h.e.bw hb,h.tr,h.tb,h.rb⟩
theorem M6.lt {W:qw}{T:qi}{D R:qi}(h:M6 W base v1 v3 v5 v6 v7 a2 bn f T X D R I E):(∀ j,v1.ownBlock=some j->base<=j/\j<W.heap.size)/\(∀ j,Sr f bn j->base<=j/\j<W.heap.size)/\(∀ j,v3.ownBlock=some j->base<=j/\j<W.heap.size)/\(∀ j,v5.ownBlock=some j->base<=j/\j<W.heap.size)/\(∀ j,v6.ownBlock=some j->base<=j/\j<W.heap.size)/\(∀ j,v7.ownBlock=some j->base<=j/\j<W.heap.size):=
 ⟨h.t.lt,fun j hj=>by obtain ⟨i,hi,e⟩:=hj;exact (h.b.rows i hi).lt j e,h.d.lt,h.r.lt,h.i.lt,h.e.lt⟩
structure Md where
 nm:ByteArray
 ta:qO
 tn:Nat
 tc:Nat
 tz:List Int
 ba:qO
 bn:Nat
 bc:Nat
 bl:List Bk
 da:qO
 dn:Nat
 dc:Nat
 dz:List Int
 bss:Int
 ra:qO
 rn:Nat
 rc:Nat
 rz:List Int
 ia:qO
 im:Nat
 ic:Nat
 ss:List ByteArray
 ea:qO
 en:Nat
 ec:Nat
 es:List Ex
def aK:Md:=⟨⟨#[]⟩,none,0,0,[],none,0,0,[],none,0,0,[],0,none,0,0,[],none,0,0,[],none,0,0,[]⟩
def Md.mt (m:Md)(w:qw):Prop:=MT w m.nm m.ta m.tn m.tc m.tz m.ba m.bn m.bc m.bl m.da m.dn m.dc m.dz m.bss m.ra m.rn m.rc m.rz m.ia m.im m.ic m.ss m.ea m.en m.ec m.es
def Md.size (m:Md):Nat:=cT m.nm m.tn m.bn m.bl m.dn m.rn m.im m.ss m.en m.es
def Md.cells (m:Md):Array Value:=(qM m.nm m.ta m.tn m.tc m.ba m.bn m.bc m.da m.dn m.dc m.bss m.ra m.rn m.rc m.ia m.im m.ic m.ea m.en m.ec)
def At8 (w:qw)(b o:Nat)(m:Md):Prop:=
 w.cell? (qR b o)=some (.string m.nm)/\w.cell? (qR b (o+1))=some (qS m.ta m.tn m.tc)/\w.cell? (qR b (o+2))=some (qS m.ba m.bn m.bc)/\w.cell? (qR b (o+3))=some (qS m.da m.dn m.dc)/\w.cell? (qR b (o+4))=some (qI m.bss)/\w.cell? (qR b (o+5))=some (qS m.ra m.rn m.rc)/\w.cell? (qR b (o+6))=some (qS m.ia m.im m.ic)/\w.cell? (qR b (o+7))=some (qS m.ea m.en m.ec)
theorem At8.bw {w w':qw}{m:Md}(h:At8 w b o m)(hb:qY w w'):At8 w' b o m:=by
 have key:∀ o v,w.cell? (qR b o)=some v->w'.cell? (qR b o)=some v:=fun o v hv=>(hb.cell (xD w _ hv)).trans hv;obtain ⟨h0,h1,h2,h3,h4,h5,h6,h7⟩:=h;exact ⟨key _ _ h0,key _ _ h1,key _ _ h2,key _ _ h3,key _ _ h4,key _ _ h5,key _ _ h6,key _ _ h7⟩
theorem Md.bw {m:Md}{w w':qw}(h:m.mt w)(hb:qY w w'):m.mt w':=MT.bw h hb
def MS (w:qw)(a:qO)(n cap:Nat)(ms:List Md):Prop:=
 ms.length=n/\n<=maxLen/\(n≠0->∃ b off,a=some (qR b off)/\∀ i,i<n->At8 w b (off+i*8) (ms.getD i aK))/\(∀ i,i<n->(ms.getD i aK).mt w)/\n<=cap
theorem MS.bw {w w':qw}{ms:List Md}(h:MS w a n cap ms)(hb:qY w w'):MS w' a n cap ms:=by
 obtain ⟨h1,h2,h3,h4,h5⟩:=h;refine ⟨h1,h2,fun hn=>?_,fun i hi=>Md.bw (h4 i hi) hb,h5⟩;obtain ⟨b,off,e,hc⟩:=h3 hn;exact ⟨b,off,e,fun i hi=>(hc i hi).bw hb⟩
theorem MS.at {w:qw}{ms:List Md}(h:MS w a n cap ms)(i:Nat)(hi:i<n):∃ b off,a=some (qR b off)/\At8 w b (off+i*8) (ms.getD i aK):=by
 obtain ⟨b,off,e,hc⟩:=h.2.2.1 (by omega);exact ⟨b,off,e,hc i hi⟩
theorem vQ (a:qO)(n cap:Nat)(ms:List Md)(l:Int)(w:qw)(h:MS w a n cap ms)(l0:0<=l)(l1:l<=1048576):
 qC 24 #[qS a n cap,qI l] w fun e w'=>e=.returned (qI (szR l (n+upS (fun j=>(ms.getD j aK).size) n)))/\qY w w':=by
 have hm:=h.2.1;unfold maxLen at hm;obtain ⟨r,hr⟩:=eqx (szR l (n+upS (fun j=>(ms.getD j aK).size) n));rw [<- hr];unfold szR at hr;have HR:=zh hr;clear hr;by_cases c1:l<(n:Int)
 .have e:=zh (show r=-1 from by rw [HR.o,if_pos (by omega)]);go_enter Tryz.func24,Tryz.ntmps24
  go_wp2;go_ret;exact ⟨aI e.o.symm,brf⟩
 .go_enter Tryz.func24,Tryz.ntmps24
  go_wp2_with fail
  go_loopw [1,5] (fun v i wr=>∃ (k:Nat) (z:Int),k<=n/\i=qI k/\v=qI z/\0<=z/\z<=1048576/\Hid (z=l-n-(upS (fun j=>(ms.getD j aK).size) k:Nat))/\qY w wr) (fun _ i _=>n-(intOf i).toNat)
  .exact ⟨0,l-n,xC _,rfl,rfl,by omega,by omega,zh (by simp [upS]),brf⟩
  .obtain ⟨k,z,hk,rfl,rfl,z0,z1,HZ,hB⟩:=hrel;by_cases hlt:k<n
   .have hlt':(k:Int)<(n:Int):=by omega
    obtain ⟨b,off,rfl,y0,y1,y2,y3,y4,y5,y6,y7⟩:=(h.bw hB).at k hlt;have HT:=zh ((h.bw hB).2.2.2.1 k hlt);have HU:Zh (upS (fun j=>(ms.getD j aK).size) (k+1)=upS (fun j=>(ms.getD j aK).size) k+(ms.getD k aK).size):=rfl;have HM:=zh (eX (fun j=>(ms.getD j aK).size) (k+1) n (by omega));generalize ms.getD k aK=m at *;obtain ⟨nm,ta,tn,tc,tz,ba,bn,bc,bl,da,dn,dc,dz,bss,ra,rn,rc,rz,ia,im,ic,ss,ea,en,ec,es⟩:=m;dsimp only at y0 y1 y2 y3 y4 y5 y6 y7;have HS:=zh (aAd nm ta tn tc tz ba bn bc bl da dn dc dz bss ra rn rc rz ia im ic ss ea en ec es z wr HT.o z0 z1);have HE:Zh (Md.size ⟨nm,ta,tn,tc,tz,ba,bn,bc,bl,da,dn,dc,dz,bss,ra,rn,rc,rz,ia,im,ic,ss,ea,en,ec,es⟩=cT nm tn bn bl dn rn im ss en es):=rfl;rw [HE.o] at HU;generalize cT nm tn bn bl dn rn im ss en es=q at *;unfold szR at HS;by_cases c2:z<(q:Int)
    .rw [if_pos c2] at HS
     have e:=zh (show r=-1 from by
      have h1:=HZ.out;have h2:=HU.o;have h3:=HM.o
      rw [HR.o,if_pos (by omega)])
     go_wp2_with fail
     refine HS.o.mono ?_;rintro e w1 ⟨rfl,hb1⟩;go_wp2;go_ret;exact ⟨aI e.o.symm,hB.trans (hb1.mono hB.size)⟩
    .rw [if_neg c2] at HS;have hz2:¬ z-(q:Int)<0:=by omega
     go_wp2_with fail
     refine HS.o.mono ?_;rintro e w1 ⟨rfl,hb1⟩;clear y0 y1 y2 y3 y4 y5 y6 y7;go_wp2
     go_roundw
     .exact ⟨k+1,z-q,by omega,by go_num,rfl,by omega,by omega,zh (by have h1:=HZ.out;have h2:=HU.o;omega),hB.trans (hb1.mono hB.size)⟩
     .simp [intOf];omega
   .have e:=zh (show r=z from by
     have h1:=HZ.out;have hkn:k=n:=by omega
     rw [hkn] at h1;rw [HR.o,if_neg (by omega)]
     omega)
    go_wp2;go_ret;exact ⟨aI e.o.symm,hB⟩
def aAl (w:qw)(g o:Nat)(m:Md):World:=((((((((w.setCell (qR g o) (.string m.nm)).setCell (qR g (o+1)) (qS m.ta m.tn m.tc)).setCell (qR g (o+2)) (qS m.ba m.bn m.bc)).setCell (qR g (o+3)) (qS m.da m.dn m.dc)).setCell (qR g (o+4)) (qI m.bss)).setCell (qR g (o+5)) (qS m.ra m.rn m.rc)).setCell (qR g (o+6)) (qS m.ia m.im m.ic)).setCell (qR g (o+7)) (qS m.ea m.en m.ec))
theorem cX (w:qw)(g o b o':Nat)(m:Md)(h:b≠g\/o'<o\/o+8<=o':=by omega):(aAl w g o m).cell? (qR b o')=w.cell? (qR b o'):=by
 unfold aAl;rw [aP,aP,aP,aP,aP,aP,aP,aP]
theorem aGk {w:qw}{q:Md}(h:At8 w g o q)(m:Md):At8 (aAl w g o m) g o m:=by
 obtain ⟨h0,h1,h2,h3,h4,h5,h6,h7⟩:=h;unfold aAl;refine ⟨?_,?_,?_,?_,?_,?_,?_,?_⟩
 .rw [aP,aP,aP,aP,aP,aP,aP];exact lI (u:=_) (by exact h0)
 .rw [aP,aP,aP,aP,aP,aP];exact lI (u:=_) (by rw [aP];exact h1)
 .rw [aP,aP,aP,aP,aP];exact lI (u:=_) (by rw [aP,aP];exact h2)
 .rw [aP,aP,aP,aP];exact lI (u:=_) (by rw [aP,aP,aP];exact h3)
 .rw [aP,aP,aP];exact lI (u:=_) (by rw [aP,aP,aP,aP];exact h4)
 .rw [aP,aP];exact lI (u:=_) (by rw [aP,aP,aP,aP,aP];exact h5)
 .rw [aP];exact lI (u:=_) (by rw [aP,aP,aP,aP,aP,aP];exact h6)
 .exact lI (u:=_) (by rw [aP,aP,aP,aP,aP,aP,aP];exact h7)
theorem aCj {w:qw}{o':Nat}{q:Md}(h:At8 w b o' q)(m:Md)(hf:b≠g\/o'+8<=o\/o+8<=o'):At8 (aAl w g o m) b o' q:=by
 unfold At8;rw [cX _ _ _ _ _ _,cX _ _ _ _ _ _,cX _ _ _ _ _ _,cX _ _ _ _ _ _,cX _ _ _ _ _ _,cX _ _ _ _ _ _,cX _ _ _ _ _ _,cX _ _ _ _ _ _];exact h
theorem aJv {w:qw}{cur:Array Value}{t:TypeId}(h:Blk w g cur t)(o:Nat)(m:Md):∃ cur',Blk (aAl w g o m) g cur' t/\cur'.size=cur.size:=
 ⟨_,((((((((h.set (o) _).set (o+1) _).set (o+2) _).set (o+3) _).set (o+4) _).set (o+5) _).set (o+6) _).set (o+7) _),by simp⟩
theorem aEd {B:Nat}{a w:qw}(h:Below B a w)(hg:B<=g)(o:Nat)(m:Md):Below B a (aAl w g o m):=
 ((((((((h.setCell (p:=(qR g o)) hg _).setCell (p:=(qR g (o+1))) hg _).setCell (p:=(qR g (o+2))) hg _).setCell (p:=(qR g (o+3))) hg _).setCell (p:=(qR g (o+4))) hg _).setCell (p:=(qR g (o+5))) hg _).setCell (p:=(qR g (o+6))) hg _).setCell (p:=(qR g (o+7))) hg _)
theorem aHz (c:Nat)(w:qw)(g o:Nat)(m:Md)(h:g<=c):Turn (fun j=>j<=c) w (aAl w g o m):=
 ((((((((bR c w g o _ h).trans (bR c _ g (o+1) _ h)).trans (bR c _ g (o+2) _ h)).trans (bR c _ g (o+3) _ h)).trans (bR c _ g (o+4) _ h)).trans (bR c _ g (o+5) _ h)).trans (bR c _ g (o+6) _ h)).trans (bR c _ g (o+7) _ h))
def eO (c:Nat)(m m':Md)(W:qw):Prop:=∃ g1 g2 g3 g5 g6 g7 gs,m'=⟨m.nm,some (qR g1 0),m.tn,m.tn,m.tz,some (qR g2 0),m.bn,m.bn,reb gs m.bl,some (qR g3 0),m.dn,m.dn,m.dz,m.bss,some (qR g5 0),m.rn,m.rn,m.rz,some (qR g6 0),m.im,m.im,m.ss,some (qR g7 0),m.en,m.en,m.es⟩/\c<g1/\g1<g2/\g2<g3/\g3<g5/\g5<g6/\g6<g7/\gs.length=m.bn/\RowI W g1 m.tz/\RowB W g2 m.bn gs m.bl/\Row8 W g3 m.dz/\RowI W g5 m.rz/\RowT W g6 m.ss/\RowX W g7 m.es
theorem lV (c:Nat)(m m':Md):Stab c (eO c m m'):=fun W W' t h=>by
 obtain ⟨g1,g2,g3,g5,g6,g7,gs,e,l1,l2,l3,l4,l5,l6,hg,r1,r2,r3,r5,r6,r7⟩:=h
 have key:RowB W' g2 m.bn gs m.bl:=by
  obtain ⟨⟨cur,h2,h3⟩,h4,h5⟩:=r2;exact ⟨⟨cur,aF t h2 (by show ¬ g2<=c;omega),h3⟩,fun i hi=>⟨aF t (h4 i hi).1 (by show ¬ gs.getD i 0<=c;have:=(h4 i hi).2;omega),(h4 i hi).2⟩,h5⟩
 exact ⟨g1,g2,g3,g5,g6,g7,gs,e,l1,l2,l3,l4,l5,l6,hg,sD (by omega) W W' t r1,key,sE (by omega) W W' t r3,sD (by omega) W W' t r5,aJj (by omega) W W' t r6,aJi (by omega) W W' t r7⟩
theorem aFw {m m':Md}{W W':qw}(h:eO c m m' W)(hb:qY W W'):eO c m m' W':=lV c m m' W W' (aJ hb) h
theorem aHc {m m':Md}{w W:qw}(hm:m.mt w)(h:eO c m m' W):m'.mt W:=by
 obtain ⟨g1,g2,g3,g5,g6,g7,gs,rfl,_,_,_,_,_,_,hg,r1,r2,r3,r5,r6,r7⟩:=h;exact aEs hm hg r1 r2 r3 r5 r6 r7
def RowM (W:qw)(c n:Nat)(ms ms':List Md):Prop:=
 (∃ cur,Blk W c cur 138/\cur.size=n*8)/\(∀ i,i<n->∃ q,At8 W c (i*8) q)/\∀ i,i<ms'.length->At8 W c (i*8) (ms'.getD i aK)/\eO c (ms.getD i aK) (ms'.getD i aK) W
theorem RowM.bw {W W':qw}{ms ms':List Md}(h:RowM W c n ms ms')(hb:qY W W'):RowM W' c n ms ms':=by
 obtain ⟨⟨cur,hc,hs⟩,hq,hr⟩:=h;exact ⟨⟨cur,hc.bw hb,hs⟩,fun i hi=>by obtain ⟨q,h⟩:=hq i hi;exact ⟨q,h.bw hb⟩,fun i hi=>⟨(hr i hi).1.bw hb,aFw (hr i hi).2 hb⟩⟩
theorem aNx (ms:List Md)(x:Md)(i:Nat)(h:i<ms.length):(ms++[x]).getD i aK=ms.getD i aK:=by
 simp [xB,List.getElem?_append_left h]
theorem aIz (ms:List Md)(x:Md):(ms++[x]).getD ms.length aK=x:=by
 simp [xB]
theorem RowM.push {W:qw}{ms ms':List Md}(h:RowM W c n ms ms')(hk:ms'.length<n)(x:Md)(hx:eO c (ms.getD ms'.length aK) x W):RowM (aAl W c (ms'.length*8) x) c n ms (ms'++[x]):=by
 obtain ⟨⟨cur,hc,hs⟩,hq,hr⟩:=h;obtain ⟨cur',hc',hs'⟩:=aJv hc (ms'.length*8) x;have T:=aHz c W c (ms'.length*8) x aN;refine ⟨⟨cur',hc',by rw [hs',hs]⟩,fun i hi=>?_,fun i hi=>?_⟩
 .obtain ⟨q,h⟩:=hq i hi;by_cases e:i=ms'.length
  .subst e;exact ⟨x,aGk h x⟩
  .exact ⟨q,aCj h x (by omega)⟩
 .simp only [xI,List.length_cons,List.length_nil] at hi;by_cases e:i=ms'.length
  .subst e;rw [aIz];obtain ⟨q,h⟩:=hq _ hk;exact ⟨aGk h x,lV _ _ _ _ _ T hx⟩
  .rw [aNx _ _ _ (by omega)];exact ⟨aCj (hr i (by omega)).1 x (by omega),lV _ _ _ _ _ T (hr i (by omega)).2⟩
theorem aLd:(Tryz.prog.info? 138).map (fun i=>(i.zero,i.size,i.bytes))=some (some (.agg #[.string ⟨#[]⟩,qS none 0 0,qS none 0 0,qS none 0 0,qI 0,qS none 0 0,qS none 0 0,qS none 0 0]),8,168):=by kernel_rfl
theorem aAp {w:qw}{ms:List Md}(h:w.ownsRow base 138 8 (qS (qP g) n n) n (madeCells (Value.cells (.agg #[.string ⟨#[]⟩,qS none 0 0,qS none 0 0,qS none 0 0,qI 0,qS none 0 0,qS none 0 0,qS none 0 0])) (n*8)).toList):RowM w g n ms []:=by
 obtain ⟨hl,h|⟨g',cap,cur,hv,hb,hh,h1,h2,h3,h4⟩⟩:=h
 .simp at h
 .simp at hv;obtain ⟨rfl,rfl⟩:=hv
  have e:cur.toList=(madeCells (Value.cells (.agg #[.string ⟨#[]⟩,qS none 0 0,qS none 0 0,qS none 0 0,qI 0,qS none 0 0,qS none 0 0,qS none 0 0])) (n*8)).toList:=by
   rw [<- h4,xG (by simp [h3])]
  have e2:cur=madeCells (Value.cells (.agg #[.string ⟨#[]⟩,qS none 0 0,qS none 0 0,qS none 0 0,qI 0,qS none 0 0,qS none 0 0,qS none 0 0])) (n*8):=Array.toList_inj.1 e;have hB:Blk w g cur 138:=hh;refine ⟨⟨cur,hB,by simp [h3]⟩,fun i hi=>⟨aK,?_⟩,fun i hi=>by simp at hi⟩
  have hcell:∀ j,j<8->w.cell? (qR g (i*8+j))=#[Value.string ⟨#[]⟩,qS none 0 0,qS none 0 0,qS none 0 0,qI 0,qS none 0 0,qS none 0 0,qS none 0 0][j]?:=by
   intro j hj;rw [hB.cell,e2];have hm:(i*8+j)%8=j:=by omega
   simp [madeCells,Value.cells,show i*8+j<n*8 by omega,hm]
   match j,hj with
   | 0,_=>rfl
   | 1,_=>rfl
   | 2,_=>rfl
   | 3,_=>rfl
   | 4,_=>rfl
   | 5,_=>rfl
   | 6,_=>rfl
   | 7,_=>rfl
  exact ⟨hcell 0 (by omega),hcell 1 (by omega),hcell 2 (by omega),hcell 3 (by omega),hcell 4 (by omega),hcell 5 (by omega),hcell 6 (by omega),hcell 7 (by omega)⟩
theorem vJ (a:qO)(n cap:Nat)(ms:List Md)(w:qw)(h:MS w a n cap ms)(hn:n<=1048576)(hs:∀ i,i<n->(ms.getD i aK).size<=1048576):
 qC 32 #[qS a n cap] w fun e w'=>e=.returned (qS (qP w.heap.size) n n)/\(∃ ms',ms'.length=n/\RowM w' w.heap.size n ms ms')/\qY w w':=by
 obtain ⟨i0,hi,hz0,hz1,hz2⟩:=info_parts aLd;go_enter Tryz.func32,Tryz.ntmps32
 go_wp2_with (at_make;refine wpList_make_full _ rfl _ _ 36 rfl w.heap.size 138 i0 (.agg #[.string ⟨#[]⟩,qS none 0 0,qS none 0 0,qS none 0 0,qI 0,qS none 0 0,qS none 0 0,qS none 0 0]) 8 Tryz.underlying36 hi hz0 hz1 .i64 .i64 _ _ n rfl rfl rfl rfl (by rw [hz2];omega) (by unfold maxLen;omega) aN ?_;intro w1 hown hgr)
 have hrow:RowM w1 w.heap.size n ms []:=aAp hown;have hbel:=aW hgr;clear hown hgr hi hz0 hz1 hz2;go_loopw [4] (fun i wr=>∃ k:Nat,k<=n/\i=qI k/\(∃ ms',ms'.length=k/\RowM wr w.heap.size n ms ms')/\qY w wr) (qf n)
 .exact ⟨0,xC _,rfl,⟨[],rfl,hrow⟩,hbel⟩
 .obtain ⟨k,hk,rfl,⟨ms',hl,hR⟩,hB⟩:=hrel;clear hrow hbel;by_cases hlt:k<n
  .have hlt':(k:Int)<(n:Int):=by omega
   obtain ⟨b,off,rfl,y0,y1,y2,y3,y4,y5,y6,y7⟩:=(h.bw hB).at k hlt;have HT:=zh ((h.bw hB).2.2.2.1 k hlt);have hsk:=hs k hlt
   have HP:=zh (fun (W:qw) (x:Md) (hW:qY wr W) (hx:eO w.heap.size (ms.getD k aK) x W)=>by
    have hp:=(hR.bw hW).push (by omega) x (by rw [hl];exact hx);rw [hl] at hp
    exact hp)
   have HF:=zh (fun (W:qw) (hW:qY wr W)=>show (∃ q,At8 W w.heap.size (k*8) q)/\∀ i,W.frozen? (qR w.heap.size i)=false from ⟨(hR.bw hW).2.1 k hlt,by obtain ⟨⟨cur,hc,_⟩,_⟩:=hR.bw hW;exact hc.frozen⟩);have hcl:w.heap.size<wr.heap.size:=by obtain ⟨⟨cur,hc,_⟩,_⟩:=hR;exact hc.lt
   clear hR;generalize ms.getD k aK=m at *;obtain ⟨nm,ta,tn,tc,tz,ba,bn,bc,bl,da,dn,dc,dz,bss,ra,rn,rc,rz,ia,im,ic,ss,ea,en,ec,es⟩:=m;dsimp only at y0 y1 y2 y3 y4 y5 y6 y7;have HS:=zh (zX nm ta tn tc tz ba bn bc bl da dn dc dz bss ra rn rc rz ia im ic ss ea en ec es wr HT.o hsk);clear hsk;go_wp2_with fail
   refine HS.o.mono ?_;rintro e w2 ⟨g1,g2,g3,g5,g6,g7,rfl,l1,l2,l3,l4,l5,l6,r1,⟨gs,hg,r2⟩,r3,r5,r6,r7,hb2⟩;have HX:=zh (HP.o w2 ⟨nm,some (qR g1 0),tn,tn,tz,some (qR g2 0),bn,bn,reb gs bl,some (qR g3 0),dn,dn,dz,bss,some (qR g5 0),rn,rn,rz,some (qR g6 0),im,im,ss,some (qR g7 0),en,en,es⟩ hb2 ⟨g1,g2,g3,g5,g6,g7,gs,rfl,by omega,l2,l3,l4,l5,l6,hg,r1,r2,r3,r5,r6,r7⟩);obtain ⟨⟨q,p0,p1,p2,p3,p4,p5,p6,p7⟩,hfz⟩:=HF.o w2 hb2;have HB2:=zh (aEd (hB.trans (hb2.mono hB.size)) (Nat.le_refl w.heap.size) (k*8) ⟨nm,some (qR g1 0),tn,tn,tz,some (qR g2 0),bn,bn,reb gs bl,some (qR g3 0),dn,dn,dz,bss,some (qR g5 0),rn,rn,rz,some (qR g6 0),im,im,ss,some (qR g7 0),en,en,es⟩);clear HP HF HS HT y0 y1 y2 y3 y4 y5 y6 y7 r1 r2 r3 r5 r6 r7 hb2 hB;go_wp2
   go_roundw
   .exact ⟨k+1,by omega,by go_num,⟨_,by rw [xI,hl];rfl,HX.o⟩,HB2.o⟩
   .simp [qf,intOf];omega
  .have e:Zh (k=n):=by show k=n;omega
   go_wp2;go_ret;exact ⟨rfl,⟨ms',by rw [hl,e.o],hR⟩,hB⟩
end Go.Proofs.YtncccmeomcaabaaGreat
namespace Go.Proofs.YtncccmeomcaabaaGreat
open Go.RowKit Go.Maps
set_option maxRecDepth 100000
variable {ms:List Md}{n:Nat}{s:ByteArray}
def aMe (m m':Md):Prop:=m.nm=m'.nm/\m.tn=m'.tn/\m.tz=m'.tz/\m.bn=m'.bn/\(∀ i,i<m.bn->(m'.bl.getD i zB).2.1=(m.bl.getD i zB).2.1/\(m'.bl.getD i zB).2.2.2=(m.bl.getD i zB).2.2.2)/\m.dn=m'.dn/\m.dz=m'.dz/\m.bss=m'.bss/\m.rn=m'.rn/\m.rz=m'.rz/\m.im=m'.im/\m.ss=m'.ss/\m.en=m'.en/\m.es=m'.es
theorem aCk {c c':Nat}{m x y:Md}{W W':qw}(hb:m.bl.length=m.bn)(h:eO c m x W)(h':eO c' m y W'):aMe x y:=by
 obtain ⟨_,_,_,_,_,_,gs,rfl,_⟩:=h;obtain ⟨_,_,_,_,_,_,gs',rfl,_⟩:=h';exact ⟨rfl,rfl,rfl,rfl,fun i hi=>by dsimp only at hi ⊢;rw [gX _ _ _,gX _ _ _];exact ⟨rfl,rfl⟩,rfl,rfl,rfl,rfl,rfl,rfl,rfl,rfl,rfl⟩
theorem uQ (a a':qO)(n cap cap':Nat)(ms ms':List Md)(w:qw)(h:MS w a n cap ms)(h':MS w a' n cap' ms')(hz:∀ i,i<n->aMe (ms.getD i aK) (ms'.getD i aK)):
 qC 42 #[qS a n cap,qS a' n cap'] w (qB w (.bool true)):=by
 have hmx:=h.2.1;unfold maxLen at hmx;have hne:((n:Int) !=(n:Int))=false:=by simp
 go_enter Tryz.func42,Tryz.ntmps42
 go_wp2;go_loopw [5] (fun i wr=>∃ k:Nat,k<=n/\i=qI k/\qY w wr) (qf n)
 .exact ⟨0,xC _,rfl,brf⟩
 .obtain ⟨k,hk,rfl,hB⟩:=hrel;by_cases hlt:k<n
  .have hlt':(k:Int)<(n:Int):=by omega
   obtain ⟨b,off,rfl,q0,q1,q2,q3,q4,q5,q6,q7⟩:=(h.bw hB).at k hlt;obtain ⟨b',off',rfl,p0,p1,p2,p3,p4,p5,p6,p7⟩:=(h'.bw hB).at k hlt;have m1:=(h.bw hB).2.2.2.1 k hlt;have m2:=(h'.bw hB).2.2.2.1 k hlt;have hs:=hz k hlt;generalize ms.getD k aK=m at *;generalize ms'.getD k aK=m' at *;obtain ⟨nm,ta,tn,tc,tz,ba,bn,bc,bl,da,dn,dc,dz,bss,ra,rn,rc,rz,ia,im,ic,ss,ea,en,ec,es⟩:=m;obtain ⟨nm',ta',tn',tc',tz',ba',bn',bc',bl',da',dn',dc',dz',bss',ra',rn',rc',rz',ia',im',ic',ss',ea',en',ec',es'⟩:=m';obtain ⟨e1,e2,e3,e4,hbl,e5,e6,e7,e8,e9,e10,e11,e12,e13⟩:=hs;dsimp only at e1 e2 e3 e4 hbl e5 e6 e7 e8 e9 e10 e11 e12 e13 q0 q1 q2 q3 q4 q5 q6 q7 p0 p1 p2 p3 p4 p5 p6 p7;subst e1 e2 e3 e4 e5 e6 e7 e8 e9 e10 e11 e12 e13;have HE:=zh (fun w h h'=>wR nm ta ta' tn tc tc' tz ba ba' bn bc bc' bl bl' da da' dn dc dc' dz bss ra ra' rn rc rc' rz ia ia' im ic ic' ss ea ea' en ec ec' es w h h' hbl);clear hbl;have HM:=zh (xA m1 m2);clear m1 m2;go_wp2
   go_region_held3 (fun w'=>w'.cell? (qR b (off+k*8))=some (.string nm)/\w'.cell? (qR b (off+k*8+1))=some (qS ta tn tc)/\w'.cell? (qR b (off+k*8+2))=some (qS ba bn bc)/\w'.cell? (qR b (off+k*8+3))=some (qS da dn dc)/\w'.cell? (qR b (off+k*8+4))=some (qI bss)/\w'.cell? (qR b (off+k*8+5))=some (qS ra rn rc)/\w'.cell? (qR b (off+k*8+6))=some (qS ia im ic)/\w'.cell? (qR b (off+k*8+7))=some (qS ea en ec)/\w'.cell? (qR b' (off'+k*8))=some (.string nm)/\w'.cell? (qR b' (off'+k*8+1))=some (qS ta' tn tc')/\w'.cell? (qR b' (off'+k*8+2))=some (qS ba' bn bc')/\w'.cell? (qR b' (off'+k*8+3))=some (qS da' dn dc')/\w'.cell? (qR b' (off'+k*8+4))=some (qI bss)/\w'.cell? (qR b' (off'+k*8+5))=some (qS ra' rn rc')/\w'.cell? (qR b' (off'+k*8+6))=some (qS ia' im ic')/\w'.cell? (qR b' (off'+k*8+7))=some (qS ea' en ec')) (go_keep)
    (first
      | (go_at_call 99;refine (HE.o _ (MT.bw HM.o.1 brf.drew) (MT.bw HM.o.2 brf.drew)).mono ?_;rintro e w1 ⟨rfl,hb1⟩;replace hb1:=dH hb1;obtain ⟨hc1,hf1⟩:=aL7 hb1;have hlb:=xD _ _ q0;have hlb':=xD _ _ p0))
   clear hc1 hf1 q0 q1 q2 q3 q4 q5 q6 q7 p0 p1 p2 p3 p4 p5 p6 p7;go_wp2
   go_roundw
   .exact ⟨k+1,by omega,by go_num,hB.trans (hb1.mono hB.size)⟩
   .simp [qf,intOf];omega
  .go_wp2;go_ret;exact ⟨rfl,hB⟩
theorem tH (m:Md)(w:qw):qC 123 #[.agg m.cells] w (qB w (.string m.nm)):=by
 unfold Md.cells;go_enter Tryz.func123,Tryz.ntmps123
 go_wp2;go_ret;exact ⟨rfl,bal⟩
def cU (ms:List Md)(i:Nat):List UInt8:=(ms.getD i aK).nm.data.toList
theorem nT (a:qO)(n cap:Nat)(ms:List Md)(w:qw)(h:MS w a n cap ms)(hn:n<=1048576):
 qC 122 #[qS a n cap,.func (.func 123) #[] #[]] w fun e w'=>e=.returned (.map (some w.heap.size))/\w'.ownsMap Tryz.prog 9 (plainElem Tryz.prog 3) w.heap.size n (fd (cU ms) n)/\qY w w':=by
 have hmm:=iE;have hm1:=h.2.1;unfold maxLen at hm1;go_enter Tryz.func122,Tryz.ntmps122
 go_wp2;go_loopw [16] (fun i wr=>∃ k:Nat,k<=n/\i=qI k/\wr.ownsMap Tryz.prog 9 (plainElem Tryz.prog 3) w.heap.size k (fd (cU ms) k)/\qY w wr) (qf n)
 .exact ⟨0,xC _,rfl,World.ownsMap_made _ _ _ _,bal⟩
 .obtain ⟨k,hk,rfl,hown,hB⟩:=hrel;by_cases hlt:k<n
  .have hlt':(k:Int)<(n:Int):=by omega
   obtain ⟨bb,off,rfl,q0,q1,q2,q3,q4,q5,q6,q7⟩:=(h.bw hB).at k hlt;have hsz:=(h.2.2.2.1 k hlt).n;have HX:=zh (jN (cU ms) k);have hkl:cU ms k=(ms.getD k aK).nm.data.toList:=rfl;rw [hkl] at HX;clear hkl;generalize ms.getD k aK=m at *;obtain ⟨nm,ta,tn,tc,tz,ba,bn,bc,bl,da,dn,dc,dz,bss,ra,rn,rc,rz,ia,im,ic,ss,ea,en,ec,es⟩:=m;dsimp only at q0 q1 q2 q3 q4 q5 q6 q7 hsz HX;have HKEY:Zh (keyOf Tryz.prog 9 (.string nm)=some (.string nm.data.toList)):=Go.WideMaps.keyOf_string_mk Tryz.underlying9 hsz;have HMN:=zh (fun w=>tH ⟨nm,ta,tn,tc,tz,ba,bn,bc,bl,da,dn,dc,dz,bss,ra,rn,rc,rz,ia,im,ic,ss,ea,en,ec,es⟩ w);have hA:qY wr (wr.alloc (.cells (qM nm ta tn tc ba bn bc da dn dc bss ra rn rc ia im ic ea en ec) 138)):=bal;go_wp2_with fail
   refine (HMN.o _).mono ?_;rintro e w1 ⟨rfl,hb1⟩;have hb1':=hA.trans (hb1.mono hA.size);have hB1:=hB.trans (hb1'.mono hB.size)
   have hown1:w1.ownsMap Tryz.prog 9 (plainElem Tryz.prog 3) w.heap.size k (fd (cU ms) k):=by
    obtain ⟨es',cl,hh,r⟩:=hown;refine ⟨es',cl,?_,r⟩
    have hl:w.heap.size<wr.heap.size:=by
     rcases Nat.lt_or_ge w.heap.size wr.heap.size with h'|h'
     .exact h'
     .rw [Array.getElem?_eq_none h'] at hh;cases hh
    rw [hb1'.block _ hl];exact hh
   clear hown hA hb1 hb1' q0 q1 q2 q3 q4 q5 q6 q7;cases hh:has (fd (cU ms) k) (.string nm.data.toList)
   .rw [hh] at HX
    go_wp2_with (first
     | (at_lookup;refine wpList_lookup_own_ok_int _ rfl _ _ 176 rfl 9 3 .i64 wF Tryz.underlying176 Tryz.underlying3 (pN _) w.heap.size k _ rfl hown1 _ _ rfl HKEY.o ?_;intro c hat hwc;clear hat;rw [hh])
     | (at_mapUpdate;refine wpList_mapUpdate_own _ rfl _ _ _ 176 rfl 9 3 wF Tryz.underlying176 _ w.heap.size k _ rfl hown1 (by unfold maxLen;omega) _ _ _ rfl rfl HKEY.o _ [] (plainElem_int Tryz.underlying3 (WalkArith.wf_i64 (by omega))) ?_;intro w2 hown2 hgr2))
    have HO:=zh hown2;have HB2:=zh (hB1.grown hgr2 hB1.size (fun j hj=>by cases hj;exact aN));clear hown2 hgr2 hown1;go_wp2
    go_roundw
    .exact ⟨k+1,by omega,by go_num,by have:=HO.o;rw [HX.o,if_neg (by simp)];exact this,HB2.o⟩
    .simp [qf,intOf];omega
   .rw [hh] at HX
    go_wp2_with (first
     | (at_lookup;refine wpList_lookup_own_ok_int _ rfl _ _ 176 rfl 9 3 .i64 wF Tryz.underlying176 Tryz.underlying3 (pN _) w.heap.size k _ rfl hown1 _ _ rfl HKEY.o ?_;intro c hat hwc;clear hat;rw [hh]))
    have HO:=zh hown1;clear hown1;go_wp2
    go_roundw
    .exact ⟨k+1,by omega,by go_num,by have:=HO.o;rw [HX.o,if_pos trivial];exact this.mono (by omega),hB1⟩
    .simp [qf,intOf];omega
  .have e:Zh (k=n):=by show k=n;omega
   go_wp2;go_ret;exact ⟨rfl,by rw [e.o] at hown;exact hown,hB⟩
def tbf (n:Nat)(ms:List Md):Bool:=decide (n<=4)&&(List.range n).all fun i=>decide ((ms.getD i aK).en<=16)
theorem vO (a:qO)(n cap:Nat)(ms:List Md)(w:qw)(h:MS w a n cap ms):
 qC 121 #[qS a n cap] w (qB w (.bool (tbf n ms))):=by
 have hm1:=h.2.1;unfold maxLen at hm1;obtain ⟨r,hr⟩:=eqx (tbf n ms);rw [<- hr];unfold tbf at hr;by_cases c1:4<n
 .have HR:=zh (show r=false by rw [hr,xS (by omega)];rfl);clear hr;have c1':(4:Int)<(n:Int):=by omega
  go_enter Tryz.func121,Tryz.ntmps121
  go_wp2;go_ret;exact ⟨aA HR.o.symm,brf⟩
 .have c1':¬ (4:Int)<(n:Int):=by omega
  have HR:=zh (show r=(List.range n).all (fun i=>decide ((ms.getD i aK).en<=16)) by rw [hr,xR (by omega)];rfl);clear hr;go_enter Tryz.func121,Tryz.ntmps121
  go_wp2_with fail
  go_loopw [10] (fun i wr=>∃ k:Nat,k<=n/\i=qI k/\Hid (∀ j,j<k->decide ((ms.getD j aK).en<=16)=true)/\qY w wr) (qf n)
  .exact ⟨0,xC _,rfl,zh (fun j hj=>by omega),brf⟩
  .obtain ⟨k,hk,rfl,HJ,hB⟩:=hrel;by_cases hlt:k<n
   .have hlt':(k:Int)<(n:Int):=by omega
    obtain ⟨bb,off,rfl,q0,q1,q2,q3,q4,q5,q6,q7⟩:=(h.bw hB).at k hlt;have HZ:=zh (fT (fun i=>decide ((ms.getD i aK).en<=16)) n k hlt)
    have HG:=zh (show decide ((ms.getD k aK).en<=16)=true->∀ j,j<k+1->decide ((ms.getD j aK).en<=16)=true from fun h j hj=>by
     by_cases e:j=k
     .subst e;exact h
     .exact HJ.out j (by omega))
    generalize ms.getD k aK=m at *;obtain ⟨nm,ta,tn,tc,tz,ba,bn,bc,bl,da,dn,dc,dz,bss,ra,rn,rc,rz,ia,im,ic,ss,ea,en,ec,es⟩:=m;dsimp only at q0 q1 q2 q3 q4 q5 q6 q7 HZ HG;have HB1:=zh (hB.alloc hB.size (.cells (qM nm ta tn tc ba bn bc da dn dc bss ra rn rc ia im ic ea en ec) 138));by_cases d:16<en
    .have d':(16:Int)<(en:Int):=by omega
     go_wp2;go_ret;exact ⟨aA (by rw [HR.o];exact (HZ.o (xS (by omega))).symm),HB1.o⟩
    .have d':¬ (16:Int)<(en:Int):=by omega
     go_wp2
     go_roundw
     .exact ⟨k+1,by omega,by go_num,zh (HG.o (xR (by omega))),HB1.o⟩
     .simp [qf,intOf];omega
   .have HE:=zh (fA (fun i=>decide ((ms.getD i aK).en<=16)) n (fun j hj=>HJ.out j (by omega)));go_wp2;go_ret;exact ⟨aA (by rw [HR.o];exact HE.o.symm),hB⟩
def rsT (n:Nat)(ms:List Md)(s:ByteArray):Option (Nat×Nat):=
 if fG s=true/\tbf n ms=true then (fst? (cU ms) (dI s).data.toList n).bind fun i=>(fst? (fO (ms.getD i aK).es) (eK s).data.toList (ms.getD i aK).en).map fun k=>(i,k) else none
def rsv (n:Nat)(ms:List Md)(s:ByteArray):Value:=
 match rsT n ms s with
 | some (i,k)=>.tuple #[.agg #[qI i,qI ((ms.getD i aK).es.getD k zE).2.1,qI ((ms.getD i aK).es.getD k zE).2.2],.bool true]
 | none=>.tuple #[.agg (qT 0 0 0),.bool false]
theorem dV (h:rsT n ms s=none):rsv n ms s=.tuple #[.agg (qT 0 0 0),.bool false]:=by unfold rsv;rw [h]
theorem aCm {i k:Nat}(h:rsT n ms s=some (i,k)):rsv n ms s=.tuple #[.agg #[.int .i64 i,.int .i64 ((ms.getD i aK).es.getD k zE).2.1,.int .i64 ((ms.getD i aK).es.getD k zE).2.2],.bool true]:=by unfold rsv;rw [h]
theorem uG (f:Nat->List UInt8)(s:List UInt8)(i:Nat):∀ k,fst? f s k=some i->i<k
 | 0,h=>by cases h
 | k+1,h=>by
   rw [fH] at h;cases hf:fst? f s k with
   | some j=>rw [hf] at h;simp at h;subst h;have:=uG f s j k hf;omega
   | none=>rw [hf] at h;simp at h;omega
theorem aG0 {H:Type}{a b:Int}(h:(DataW.lit (.int .i64 a):DataW H)=.lit (.int .i64 b)):b=a:=by
 injection h with h
 injection h with _ h
 exact h.symm
theorem aBj (a:qO)(n cap:Nat)(ms:List Md)(s:ByteArray)(w:qw)(h:MS w a n cap ms)(hn:n<=1048576)(hs:s.size<=1048576)(hE:∀ i,i<n->ES w (ms.getD i aK).ea (ms.getD i aK).en (ms.getD i aK).ec (ms.getD i aK).es/\(ms.getD i aK).en<=1048576):
 qC 63 #[.slice a n cap,.string s] w (qB w (rsv n ms s)):=by
 obtain ⟨W,hW,hB0,kb⟩:=nwb w (qT 0 0 0) 58;have HW:=zh hW;clear hW;have HC:=zh (fun w=>mJ s w hs);obtain ⟨V,hV⟩:=eqx (rsv n ms s);rw [<- hV];have HV:=zh hV;clear hV;have HTF:=zh (fun w h=>vO a n cap ms w h)
 have fin:∀ (X:qw) (x y z:Int),qY w X->Blk X w.heap.size (qT 0 0 0) 58 ->
  Blk (((X.setCell (qR w.heap.size 0) (.int .i64 x)).setCell (qR w.heap.size 1) (.int .i64 y)).setCell (qR w.heap.size 2) (.int .i64 z)) w.heap.size (qT x y z) 58/\qY w (((X.setCell (qR w.heap.size 0) (.int .i64 x)).setCell (qR w.heap.size 1) (.int .i64 y)).setCell (qR w.heap.size 2) (.int .i64 z)):=fun X x y z hB k=>by
  refine ⟨?_,((hB.setCell (p:=(qR w.heap.size 0)) aN _).setCell (p:=(qR w.heap.size 1)) aN _).setCell (p:=(qR w.heap.size 2)) aN _⟩;have:=((k.set 0 (.int .i64 x)).set 1 (.int .i64 y)).set 2 (.int .i64 z);simpa using this
 have FIN:=zh fin;clear fin;cases hf:fG s
 .have hr:=zh (dV (n:=n) (ms:=ms) (s:=s) (by unfold rsT;rw [hf];simp));unfold aFt at HC;rw [hf] at HC;go_enter Tryz.func63,Tryz.ntmps63
  go_wp2_with (rw [<- HW.o])
  refine (HC.o _).mono ?_;rintro e w1 ⟨rfl,hb1⟩;have k1:=kb.bw hb1;have hB1:=hB0.trans (hb1.mono hB0.size);obtain ⟨k2,hB2⟩:=FIN.o w1 0 0 0 hB1 k1;clear hb1 kb hB0;obtain ⟨q1,q2,q3,q4⟩:=k1.three;obtain ⟨s1,s2,s3,s4⟩:=k2.three;clear k1 k2;have HX:=zh hB2;clear hB2 hB1;go_wp2;exact bodyPost_ret (v:=.tuple #[.agg (qT 0 0 0),.bool false]) (by simp [results,Tryz.results63,go_sem,s1,s2,s3]) rfl ⟨by rw [HV.o,hr.o],HX.o⟩
 .unfold aFt at HC;rw [hf] at HC;go_enter Tryz.func63,Tryz.ntmps63
  go_wp2_with (rw [<- HW.o])
  refine (HC.o _).mono ?_;rintro e w1 ⟨rfl,hb1⟩;have k1:=kb.bw hb1;have hB1:=hB0.trans (hb1.mono hB0.size);clear hb1 kb hB0;have h1:=h.bw hB1;generalize htb:tbf n ms=tb at *;cases tb
  .have hr:=zh (dV (n:=n) (ms:=ms) (s:=s) (by unfold rsT;rw [htb];simp));clear htb;go_wp2_with fail
   refine (HTF.o _ h1).mono ?_;rintro e w2 ⟨rfl,hb2⟩;have k2:=k1.bw hb2;have hB2:=hB1.trans (hb2.mono hB1.size);obtain ⟨k3,hB3⟩:=FIN.o w2 0 0 0 hB2 k2;clear hb2 k1 hB1 h1;obtain ⟨q1,q2,q3,q4⟩:=k2.three;obtain ⟨s1,s2,s3,s4⟩:=k3.three;have HX:=zh hB3;clear hB3 hB2 k2 k3;go_wp2;exact bodyPost_ret (v:=.tuple #[.agg (qT 0 0 0),.bool false]) (by simp [results,Tryz.results63,go_sem,s1,s2,s3]) rfl ⟨by rw [HV.o,hr.o],HX.o⟩
  .have HT:=zh (show rsT n ms s=(fst? (cU ms) (dI s).data.toList n).bind fun i=>(fst? (fO (ms.getD i aK).es) (eK s).data.toList (ms.getD i aK).en).map fun k=>(i,k) by unfold rsT;rw [hf,htb];simp);clear htb;have HKA:Zh (keyOf Tryz.prog 9 (.string (dI s))=some (.string (dI s).data.toList)):=Go.WideMaps.keyOf_string_mk Tryz.underlying9 (by have:=pI s hs;unfold maxLen;omega);have HKB:Zh (keyOf Tryz.prog 9 (.string (eK s))=some (.string (eK s).data.toList)):=Go.WideMaps.keyOf_string_mk Tryz.underlying9 (by have:=pH s hs;unfold maxLen;omega);have HFM:=zh (fun w h=>nT a n cap ms w h hn);have HHA:=zh (nS (cU ms) (dI s).data.toList n);have HAA:=zh (aLq (cU ms) (dI s).data.toList (.lit (.int .i64 0)) n);have HIL:=zh (fun i=>uG (cU ms) (dI s).data.toList i n);go_wp2_with fail
   refine (HTF.o _ h1).mono ?_;rintro e w2 ⟨rfl,hb2⟩;have k2:=k1.bw hb2;have hB2:=hB1.trans (hb2.mono hB1.size);have h2:=h.bw hB2;clear hb2 k1 hB1 h1;go_wp2_with fail
   refine (HFM.o _ h2).mono ?_;rintro e w3 ⟨rfl,hown,hb3⟩;have k3:=k2.bw hb3;have hB3:=hB2.trans (hb3.mono hB2.size);have h3:=h.bw hB3;clear hb3 k2 hB2 h2;cases hi:fst? (cU ms) (dI s).data.toList n with
   | none=>
     have hr:=zh (dV (n:=n) (ms:=ms) (s:=s) (by rw [HT.o,hi];rfl));have hh:has (fd (cU ms) n) (.string (dI s).data.toList)=false:=by rw [<- HHA.o,hi];rfl
     obtain ⟨k4,hB4⟩:=FIN.o w3 0 0 0 hB3 k3;obtain ⟨q1,q2,q3,q4⟩:=k3.three;obtain ⟨s1,s2,s3,s4⟩:=k4.three;have HX:=zh hB4;clear hB4 hB3 k3 k4 h3 hi;go_wp2_with (at_lookup;refine wpList_lookup_own_ok_int _ rfl _ _ 176 rfl 9 3 .i64 wF Tryz.underlying176 Tryz.underlying3 (pN _) w2.heap.size n _ rfl hown _ _ rfl HKA.o ?_;intro c hat hwc;clear hat;rw [hh])
     exact bodyPost_ret (v:=.tuple #[.agg (qT 0 0 0),.bool false]) (by simp [results,Tryz.results63,go_sem,s1,s2,s3]) rfl ⟨by rw [HV.o,hr.o],HX.o⟩
   | some i=>
     have hin:=HIL.o i hi;have hin':(i:Int)<(n:Int):=by omega
     have hh:has (fd (cU ms) n) (.string (dI s).data.toList)=true:=by rw [<- HHA.o,hi];rfl
     have HC2:=zh (fun (c:Int) (hat:(fd (cU ms) n).atKey (.string (dI s).data.toList) (.lit (.int .i64 0))=.lit (.int .i64 c))=>show c=(i:Int) from by rw [HAA.o,hi] at hat;exact aG0 hat);have HT2:=zh (show rsT n ms s=(fst? (fO (ms.getD i aK).es) (eK s).data.toList (ms.getD i aK).en).map (fun k=>(i,k)) by rw [HT.o,hi];rfl);have HRS:=zh (fun k (h:rsT n ms s=some (i,k))=>aCm h);obtain ⟨bb,off,rfl,y0,y1,y2,y3,y4,y5,y6,y7⟩:=h3.at i hin;obtain ⟨e1,e2⟩:=hE i hin;have e3:=e1.bw hB3;clear e1 hi HT HHA HAA HIL h3;generalize ms.getD i aK=m at *;obtain ⟨nm,ta,tn,tc,tz,ba,bn,bc,bl,da,dn,dc,dz,bss,ra,rn,rc,rz,ia,im,ic,ss,ea,en,ec,es⟩:=m;dsimp only at y0 y1 y2 y3 y4 y5 y6 y7 e2 e3 HT2 HRS;have HFE:=zh (fun w h=>nU ea en ec es w h e2);go_wp2_with (at_lookup;refine wpList_lookup_own_ok_int _ rfl _ _ 176 rfl 9 3 .i64 wF Tryz.underlying176 Tryz.underlying3 (pN _) w2.heap.size n _ rfl hown _ _ rfl HKA.o ?_;intro c hat hwc;have hc:=HC2.o c hat;clear hat hwc;subst hc;rw [hh])
     refine (HFE.o _ e3).mono ?_;rintro e w4 ⟨rfl,hown4,hb4⟩;have k4:=k3.bw hb4;have hB4:=hB3.trans (hb4.mono hB3.size);have e4:=e3.bw hb4;have y7':w4.cell? (qR bb (off+i*8+7))=some (.slice ea en ec):=(hb4.cell (xD w3 _ y7)).trans y7;clear hb4 hB3 k3 e3 hown y0 y1 y2 y3 y4 y5 y6 y7 HC2 hh;cases hk:fst? (fO es) (eK s).data.toList en with
     | none=>
       have hr:=zh (dV (n:=n) (ms:=ms) (s:=s) (by rw [HT2.o,hk];rfl));have hh:has (fd (fO es) en) (.string (eK s).data.toList)=false:=by rw [<- nS,hk];rfl
       obtain ⟨k5,hB5⟩:=FIN.o w4 0 0 0 hB4 k4;obtain ⟨q1,q2,q3,q4⟩:=k4.three;obtain ⟨s1,s2,s3,s4⟩:=k5.three;have HX:=zh hB5;clear hB4 hB5 k4 k5 hk;go_wp2_with (at_lookup;refine wpList_lookup_own_ok_int _ rfl _ _ 176 rfl 9 3 .i64 wF Tryz.underlying176 Tryz.underlying3 (pN _) w3.heap.size en _ rfl hown4 _ _ rfl HKB.o ?_;intro c hat hwc;clear hat;rw [hh])
       exact bodyPost_ret (v:=.tuple #[.agg (qT 0 0 0),.bool false]) (by simp [results,Tryz.results63,go_sem,s1,s2,s3]) rfl ⟨by rw [HV.o,hr.o],HX.o⟩
     | some k=>
       have hkn:=uG (fO es) (eK s).data.toList k en hk;have hkn':(k:Int)<(en:Int):=by omega
       have hr:=zh (HRS.o k (by rw [HT2.o,hk];rfl));have hh:has (fd (fO es) en) (.string (eK s).data.toList)=true:=by rw [<- nS,hk];rfl
       have HC2:=zh (fun (c:Int) (hat:(fd (fO es) en).atKey (.string (eK s).data.toList) (.lit (.int .i64 0))=.lit (.int .i64 c))=>show c=(k:Int) from by rw [aLq,hk] at hat;exact aG0 hat);obtain ⟨eb,eo,rfl⟩:=e4.addr (by omega);obtain ⟨x0,x1,x2⟩:=e4.at k hkn;generalize es.getD k zE=E at *;obtain ⟨xn,xb,xa⟩:=E;dsimp only at x0 x1 x2 hr;obtain ⟨k5',hB5'⟩:=FIN.o w4 i xb xa hB4 k4;have k5:=k5'.alloc (.cells #[.string xn,.int .i64 xb,.int .i64 xa] 163);have hB5:=hB5'.alloc hB5'.size (.cells #[.string xn,.int .i64 xb,.int .i64 xa] 163);clear k5' hB5';have kl:=k4.lt;obtain ⟨q1,q2,q3,q4⟩:=k4.three;obtain ⟨s1,s2,s3,s4⟩:=k5.three;have HX:=zh hB5;clear hB4 hB5 k4 k5 hk e4;go_wp2_with (at_lookup;refine wpList_lookup_own_ok_int _ rfl _ _ 176 rfl 9 3 .i64 wF Tryz.underlying176 Tryz.underlying3 (pN _) w3.heap.size en _ rfl hown4 _ _ rfl HKB.o ?_;intro c hat hwc;have hc:=HC2.o c hat;clear hat hwc;subst hc;rw [hh])
       exact bodyPost_ret (v:=.tuple #[.agg (qT i xb xa),.bool true]) (by simp [results,Tryz.results63,go_sem,s1,s2,s3]) rfl ⟨by rw [HV.o,hr.o],HX.o⟩
