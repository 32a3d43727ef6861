import Derived.Maps.OwnSet
import Derived.Test.YtncccmeomcaabaaGreatP02
set_option maxHeartbeats 4000000
namespace Go.Proofs.YtncccmeomcaabaaGreat
open Go.RowKit
set_option linter.all false
set_option maxRecDepth 100000
variable {R S:World->Prop}{arg cs:Array Value}{c g:Nat}
theorem bP (c:Nat)(w:qw)(r i:Nat)(v:Value)(h:r<=c:=by omega):Turn (fun j=>j<=c) w (w.setCell (qR r i) v):=⟨rfl,rfl,rfl,by rw [aL];exact aN,fun j hj hn=>heap_setCell_other _ _ _ _ (fun e=>hn (by dsimp only at e;omega))⟩
def Stab (c:Nat)(R:World->Prop):Prop:=∀ W W',Turn (fun j=>j<=c) W W'->R W->R W'
theorem rS {zs:qi}(h:c<g):Stab c (fun W=>RowI W g zs):=fun W W' t r=>aF t r (by show ¬ g<=c;omega)
theorem rU {zs:qi}(h:c<g):Stab c (fun W=>Row8 W g zs):=fun W W' t r=>aF t r (by show ¬ g<=c;omega)
theorem aI4 {zs:List ByteArray}(h:c<g):Stab c (fun W=>RowT W g zs):=fun W W' t r=>aF t r (by show ¬ g<=c;omega)
theorem aOo {n:Nat}{bl:List Bk}(h:c<g):Stab c (fun W=>∃ gs,gs.length=n/\RowB W g n gs bl):=fun W W' t r=>by
 obtain ⟨gs,h1,⟨cur,h2,h3⟩,h4,h5⟩:=r;exact ⟨gs,h1,⟨cur,aF t h2 (by show ¬ g<=c;omega),h3⟩,fun i hi=>⟨aF t (h4 i hi).1 (by show ¬ gs.getD i 0<=c;have:=(h4 i hi).2;omega),(h4 i hi).2⟩,h5⟩
theorem aI3 {es:List Ex}(h:c<g):Stab c (fun W=>RowX W g es):=fun W W' t r=>by
 obtain ⟨⟨cur,h2,h3⟩,h4⟩:=r;have e:W'.heap[g]?=W.heap[g]?:=t.block g h2.lt (by show ¬ g<=c;omega);have key:∀ o,W'.cell? (qR g o)=W.cell? (qR g o):=fun o=>World.cell?_of_block (w:=W) e;refine ⟨⟨cur,aF t h2 (by show ¬ g<=c;omega),h3⟩,fun i hi=>?_⟩;obtain ⟨y1,y2,y3⟩:=h4 i hi;exact ⟨(key _).trans y1,(key _).trans y2,(key _).trans y3⟩
theorem Stab.and (h:Stab c R)(k:Stab c S):Stab c (fun W=>R W/\S W):=fun W W' t r=>⟨h W W' t r.1,k W W' t r.2⟩
structure TM (w W:qw)(arg cs:Array Value)(R:World->Prop):Prop where
 kb:Blk W w.heap.size arg 118
 kr:Blk W (w.heap.size+1) #[.string ⟨#[]⟩,qS none 0 0,qS none 0 0,qS none 0 0,qI 0,qS none 0 0,qS none 0 0,qS none 0 0] 138
 ko:Blk W (w.heap.size+1+1) cs 138
 hB:qY w W
 rows:R W
 st:Stab (w.heap.size+1+1) R
theorem TM.bw {w W W':qw}(h:TM w W arg cs R)(hb:qY W W'):TM w W' arg cs R:=
 ⟨h.kb.bw hb,h.kr.bw hb,h.ko.bw hb,h.hB.trans (hb.mono h.hB.size),h.st _ _ (aJ hb) h.rows,h.st⟩
theorem TM.set {w W:qw}(h:TM w W arg cs R)(i:Nat)(v:Value):TM w (W.setCell (qR (w.heap.size+1+1) i) v) arg (cs.setIfInBounds i v) R:=
 ⟨h.kb.other _ _ (by dsimp only;omega),h.kr.other _ _ (by dsimp only;omega),h.ko.set i v,h.hB.setCell (by dsimp only;omega) _,h.st _ _ (bP _ _ _ _ _ aN) h.rows,h.st⟩
theorem TM.add {w W:qw}(h:TM w W arg cs R)(r:S W)(s:Stab (w.heap.size+1+1) S):TM w W arg cs (fun W=>R W/\S W):=
 ⟨h.kb,h.kr,h.ko,h.hB,⟨h.rows,r⟩,h.st.and s⟩
theorem zC (f:Nat->Nat)(n i:Nat)(hi:i<n):f i<=upS f n:=by
 have h1:=eW f (i+1) n (by omega);have h2:upS f (i+1)=upS f i+f i:=rfl;omega
def ToM (w:qw)(nm:ByteArray)(ta:qO)(tn tc:Nat)(tz:qi)(ba:qO)(bn bc:Nat)(bl:List Bk)(da:qO)(dn dc:Nat)(dz:qi)(bss:Int)(ra:qO)(rn rc:Nat)(rz:qi)(ia:qO)(im ic:Nat)(ss:List ByteArray)(ea:qO)(en ec:Nat)(es:List Ex)(e:Ending)(w':qw):Prop:=
 ∃ g1 g2 g3 g5 g6 g7,e=.returned (.agg (qM nm (qP g1) tn tn (qP g2) bn bn (qP g3) dn dn bss (qP g5) rn rn (qP g6) im im (qP g7) en en)) /\
  w.heap.size<=g1/\g1<g2/\g2<g3/\g3<g5/\g5<g6/\g6<g7/\RowI w' g1 tz/\(∃ gs,gs.length=bn/\RowB w' g2 bn gs bl)/\Row8 w' g3 dz/\RowI w' g5 rz/\RowT w' g6 ss/\RowX w' g7 es/\qY w w'
theorem zG (nm:ByteArray)(ta:qO)(tn tc:Nat)(tz:qi)(ba:qO)(bn bc:Nat)(bl:List Bk)(da:qO)(dn dc:Nat)(dz:qi)(bss:Int)(ra:qO)(rn rc:Nat)(rz:qi)(ia:qO)(im ic:Nat)(ss:List ByteArray)(ea:qO)(en ec:Nat)(es:List Ex)(w:qw)(h:MT w nm ta tn tc tz ba bn bc bl da dn dc dz bss ra rn rc rz ia im ic ss ea en ec es)(hs:cS nm tn bn bl dn rn im ss en es<=1048576):
 qC 86 #[.agg (qM nm ta tn tc ba bn bc da dn dc bss ra rn rc ia im ic ea en ec)] w (ToM w nm ta tn tc tz ba bn bc bl da dn dc dz bss ra rn rc rz ia im ic ss ea en ec es):=by
 have HSB:=zh (show ∀ i,i<bn->(bl.getD i zB).2.1<=1048576 from fun i hi=>by
  have:=zC (fun j=>(bl.getD j zB).2.1) bn i hi;unfold cS at hs
  omega)
 obtain ⟨l1,l2,l3,l4,l5,l6⟩:tn<=1048576/\bn<=1048576/\dn<=1048576/\rn<=1048576/\im<=1048576/\en<=1048576:=by unfold cS at hs;omega
 have MX:=h;clear h hs
 have M0:TM w (((w.alloc (.cells (qM nm ta tn tc ba bn bc da dn dc bss ra rn rc ia im ic ea en ec) 118)).alloc (.cells #[.string ⟨#[]⟩,qS none 0 0,qS none 0 0,qS none 0 0,qI 0,qS none 0 0,qS none 0 0,qS none 0 0] 138)).alloc (.cells (qM nm none 0 0 none 0 0 none 0 0 0 none 0 0 none 0 0 none 0 0) 138)) (qM nm ta tn tc ba bn bc da dn dc bss ra rn rc ia im ic ea en ec) (qM nm none 0 0 none 0 0 none 0 0 0 none 0 0 none 0 0 none 0 0) (fun _=>True):=
  ⟨(
   (Blk.new w _ _).alloc _).alloc _,by have:=(Blk.new (w.alloc (.cells (qM nm ta tn tc ba bn bc da dn dc bss ra rn rc ia im ic ea en ec) 118)) #[.string ⟨#[]⟩,qS none 0 0,qS none 0 0,qS none 0 0,qI 0,qS none 0 0,qS none 0 0,qS none 0 0] 138).alloc (.cells (qM nm none 0 0 none 0 0 none 0 0 0 none 0 0 none 0 0 none 0 0) 138);simpa using this,by have:=Blk.new ((w.alloc (.cells (qM nm ta tn tc ba bn bc da dn dc bss ra rn rc ia im ic ea en ec) 118)).alloc (.cells #[.string ⟨#[]⟩,qS none 0 0,qS none 0 0,qS none 0 0,qI 0,qS none 0 0,qS none 0 0,qS none 0 0] 138)) (qM nm none 0 0 none 0 0 none 0 0 0 none 0 0 none 0 0 none 0 0) 138;simpa using this,
   (bal.alloc (by simp) _).alloc (by simp;omega) _,trivial,fun _ _ _ _=>trivial⟩
 go_enter Tryz.func86,Tryz.ntmps86
 go_wp2_with fail
 have hB:=M0.hB;refine (iV ta tn tc tz _ (MX.t.bw hB) (by omega)).mono ?_;rintro e w1 ⟨rfl,hr,hb⟩;have M1:=(M0.bw hb).add (S:=fun W=>RowI W _ tz) hr (rS (by have:=M0.ko.lt;simp at this ⊢<;>omega));have z1:=hb.size;have y1:w.heap.size+1+1+1<w1.heap.size:=by first|(have:=hr.lt;simpa using this)|(obtain ⟨gs,_,⟨cur,hk,_⟩,_⟩:=hr;have:=hk.lt;simpa using this)
 simp only [xF,aL] at M1 z1;clear hb hr hB M0;obtain ⟨q0,q1,q2,q3,q4,q5,q6,q7⟩:=M1.kb.eight;obtain ⟨o0,o1,o2,o3,o4,o5,o6,o7⟩:=M1.ko.eight;have ofz:=M1.ko.frozen;have nlt:=M1.ko.lt;go_wp2_with fail
 clear q0 q1 q2 q3 q4 q5 q6 q7 o0 o1 o2 o3 o4 o5 o6 o7 ofz nlt;replace M1:=M1.set 1 (qS (some (qR (w.heap.size+1+1+1) 0)) tn tn);simp only [yA,yB,yC] at M1;have hB:=M1.hB;refine (aBy ba bn bc bl _ (MX.b.bw hB) (by omega) HSB.o).mono ?_;rintro e w2 ⟨rfl,hr,hb⟩;have M2:=(M1.bw hb).add (S:=fun W=>∃ gs,gs.length=bn/\RowB W _ bn gs bl) hr (aOo (by have:=M1.ko.lt;simp only [aL] at this ⊢;omega));have z2:=hb.size;have y2:w1.heap.size<w2.heap.size:=by first|(have:=hr.lt;simpa using this)|(obtain ⟨gs,_,⟨cur,hk,_⟩,_⟩:=hr;have:=hk.lt;simpa using this)
 simp only [xF,aL] at M2 z2;clear hb hr hB M1;obtain ⟨q0,q1,q2,q3,q4,q5,q6,q7⟩:=M2.kb.eight;obtain ⟨o0,o1,o2,o3,o4,o5,o6,o7⟩:=M2.ko.eight;have ofz:=M2.ko.frozen;have nlt:=M2.ko.lt;go_wp2_with fail
 clear q0 q1 q2 q3 q4 q5 q6 q7 o0 o1 o2 o3 o4 o5 o6 o7 ofz nlt;replace M2:=M2.set 2 (qS (qP w1.heap.size) bn bn);simp only [yA,yB,yC] at M2;have hB:=M2.hB;refine (gM da dn dc dz _ (MX.d.bw hB)).mono ?_;rintro e w3 ⟨rfl,hr,hb⟩;have M3:=(M2.bw hb).add (S:=fun W=>Row8 W _ dz) hr (rU (by have:=M2.ko.lt;simp only [aL] at this ⊢;omega));have z3:=hb.size;have y3:w2.heap.size<w3.heap.size:=by first|(have:=hr.lt;simpa using this)|(obtain ⟨gs,_,⟨cur,hk,_⟩,_⟩:=hr;have:=hk.lt;simpa using this)
 simp only [xF,aL] at M3 z3;clear hb hr hB M2;obtain ⟨q0,q1,q2,q3,q4,q5,q6,q7⟩:=M3.kb.eight;obtain ⟨o0,o1,o2,o3,o4,o5,o6,o7⟩:=M3.ko.eight;have ofz:=M3.ko.frozen;have nlt:=M3.ko.lt;go_wp2_with fail
 clear q0 q1 q2 q3 q4 q5 q6 q7 o0 o1 o2 o3 o4 o5 o6 o7 ofz nlt;replace M3:=M3.set 3 (qS (qP w2.heap.size) dn dn);replace M3:=M3.set 4 (qI bss);simp only [yA,yB,yC] at M3;have hB:=M3.hB;refine (iV ra rn rc rz _ (MX.r.bw hB) (by omega)).mono ?_;rintro e w4 ⟨rfl,hr,hb⟩;have M4:=(M3.bw hb).add (S:=fun W=>RowI W _ rz) hr (rS (by have:=M3.ko.lt;simp only [aL] at this ⊢;omega));have z4:=hb.size;have y4:w3.heap.size<w4.heap.size:=by first|(have:=hr.lt;simpa using this)|(obtain ⟨gs,_,⟨cur,hk,_⟩,_⟩:=hr;have:=hk.lt;simpa using this)
 simp only [xF,aL] at M4 z4;clear hb hr hB M3;obtain ⟨q0,q1,q2,q3,q4,q5,q6,q7⟩:=M4.kb.eight;obtain ⟨o0,o1,o2,o3,o4,o5,o6,o7⟩:=M4.ko.eight;have ofz:=M4.ko.frozen;have nlt:=M4.ko.lt;go_wp2_with fail
 clear q0 q1 q2 q3 q4 q5 q6 q7 o0 o1 o2 o3 o4 o5 o6 o7 ofz nlt;replace M4:=M4.set 5 (qS (qP w3.heap.size) rn rn);simp only [yA,yB,yC] at M4;have hB:=M4.hB;refine (uW ia im ic ss _ (MX.i.bw hB) (by omega)).mono ?_;rintro e w5 ⟨rfl,hr,hb⟩;have M5:=(M4.bw hb).add (S:=fun W=>RowT W _ ss) hr (aI4 (by have:=M4.ko.lt;simp only [aL] at this ⊢;omega));have z5:=hb.size;have y5:w4.heap.size<w5.heap.size:=by first|(have:=hr.lt;simpa using this)|(obtain ⟨gs,_,⟨cur,hk,_⟩,_⟩:=hr;have:=hk.lt;simpa using this)
 simp only [xF,aL] at M5 z5;clear hb hr hB M4;obtain ⟨q0,q1,q2,q3,q4,q5,q6,q7⟩:=M5.kb.eight;obtain ⟨o0,o1,o2,o3,o4,o5,o6,o7⟩:=M5.ko.eight;have ofz:=M5.ko.frozen;have nlt:=M5.ko.lt;go_wp2_with fail
 clear q0 q1 q2 q3 q4 q5 q6 q7 o0 o1 o2 o3 o4 o5 o6 o7 ofz nlt;replace M5:=M5.set 6 (qS (qP w4.heap.size) im im);simp only [yA,yB,yC] at M5;have hB:=M5.hB;refine (uZ ea en ec es _ (MX.e.bw hB) (by omega)).mono ?_;rintro e w6 ⟨rfl,hr,hb⟩;have M6:=(M5.bw hb).add (S:=fun W=>RowX W _ es) hr (aI3 (by have:=M5.ko.lt;simp only [aL] at this ⊢;omega));have z6:=hb.size;have y6:w5.heap.size<w6.heap.size:=by first|(have:=hr.lt;simpa using this)|(obtain ⟨gs,_,⟨cur,hk,_⟩,_⟩:=hr;have:=hk.lt;simpa using this)
 simp only [xF,aL] at M6 z6;clear hb hr hB M5;have M7:=M6.set 7 (qS (qP w5.heap.size) en en);simp only [yA,yB,yC] at M7;obtain ⟨WF,hWF⟩:∃ X,X=(((((((((w6.setCell ⟨w.heap.size+1+1,7,none⟩ (qS (qP w5.heap.size) en en)).setCell ⟨w.heap.size+1,0,none⟩ (.string nm)).setCell ⟨w.heap.size+1,1,none⟩ (qS (some ⟨w.heap.size+1+1+1,0,none⟩) tn tn)).setCell ⟨w.heap.size+1,2,none⟩ (qS (qP w1.heap.size) bn bn)).setCell ⟨w.heap.size+1,3,none⟩ (qS (qP w2.heap.size) dn dn)).setCell ⟨w.heap.size+1,4,none⟩ (qI bss)).setCell ⟨w.heap.size+1,5,none⟩ (qS (qP w3.heap.size) rn rn)).setCell ⟨w.heap.size+1,6,none⟩ (qS (qP w4.heap.size) im im)).setCell ⟨w.heap.size+1,7,none⟩ (qS (qP w5.heap.size) en en)):=⟨_,rfl⟩
 have kF:Blk WF (w.heap.size+1) (qM nm (some (qR (w.heap.size+1+1+1) 0)) tn tn (qP w1.heap.size) bn bn (qP w2.heap.size) dn dn bss (qP w3.heap.size) rn rn (qP w4.heap.size) im im (qP w5.heap.size) en en) 138:=by
  have:=((((((((M7.kr.set 0 (.string nm)).set 1 (qS (some (qR (w.heap.size+1+1+1) 0)) tn tn)).set 2 (qS (qP w1.heap.size) bn bn)).set 3 (qS (qP w2.heap.size) dn dn)).set 4 (qI bss)).set 5 (qS (qP w3.heap.size) rn rn)).set 6 (qS (qP w4.heap.size) im im)).set 7 (qS (qP w5.heap.size) en en));simp only [yA,yB,yC] at this;rw [hWF];exact this
 have tF:Turn (fun j=>j<=w.heap.size+1+1) (w6.setCell (qR (w.heap.size+1+1) 7) (qS (qP w5.heap.size) en en)) WF:=by
  rw [hWF];exact ((((((((Turn.refl (fun j=>j<=w.heap.size+1+1) (w6.setCell (qR (w.heap.size+1+1) 7) (qS (qP w5.heap.size) en en))).trans (bP _ _ (w.heap.size+1) 0 (.string nm))).trans (bP _ _ (w.heap.size+1) 1 (qS (some (qR (w.heap.size+1+1+1) 0)) tn tn))).trans (bP _ _ (w.heap.size+1) 2 (qS (qP w1.heap.size) bn bn))).trans (bP _ _ (w.heap.size+1) 3 (qS (qP w2.heap.size) dn dn))).trans (bP _ _ (w.heap.size+1) 4 (qI bss))).trans (bP _ _ (w.heap.size+1) 5 (qS (qP w3.heap.size) rn rn))).trans (bP _ _ (w.heap.size+1) 6 (qS (qP w4.heap.size) im im))).trans (bP _ _ (w.heap.size+1) 7 (qS (qP w5.heap.size) en en))
 have rF:=M7.st _ _ tF M7.rows
 have bF:qY w WF:=by
  rw [hWF];exact ((((((((M7.hB.setCell (p:=(qR (w.heap.size+1) 0)) (by dsimp only;omega) (.string nm)).setCell (p:=(qR (w.heap.size+1) 1)) (by dsimp only;omega) (qS (some (qR (w.heap.size+1+1+1) 0)) tn tn)).setCell (p:=(qR (w.heap.size+1) 2)) (by dsimp only;omega) (qS (qP w1.heap.size) bn bn)).setCell (p:=(qR (w.heap.size+1) 3)) (by dsimp only;omega) (qS (qP w2.heap.size) dn dn)).setCell (p:=(qR (w.heap.size+1) 4)) (by dsimp only;omega) (qI bss)).setCell (p:=(qR (w.heap.size+1) 5)) (by dsimp only;omega) (qS (qP w3.heap.size) rn rn)).setCell (p:=(qR (w.heap.size+1) 6)) (by dsimp only;omega) (qS (qP w4.heap.size) im im)).setCell (p:=(qR (w.heap.size+1) 7)) (by dsimp only;omega) (qS (qP w5.heap.size) en en))
 have HF:=zh hWF;have HRF:=zh (xA rF bF);clear hWF tF rF bF M7;obtain ⟨o0,o1,o2,o3,o4,o5,o6,o7⟩:=M6.ko.eight;have ofz:=M6.ko.frozen;obtain ⟨p0,p1,p2,p3,p4,p5,p6,p7⟩:=M6.kr.eight;have pfz:=M6.kr.frozen;obtain ⟨s0,s1,s2,s3,s4,s5,s6,s7⟩:=kF.eight;have nlt:=M6.ko.lt;go_wp2_with fail
 rw [<- HF.o];clear o0 o1 o2 o3 o4 o5 o6 o7 ofz p0 p1 p2 p3 p4 p5 p6 p7 pfz;refine bodyPost_ret (v:=.agg (qM nm (some (qR (w.heap.size+1+1+1) 0)) tn tn (qP w1.heap.size) bn bn (qP w2.heap.size) dn dn bss (qP w3.heap.size) rn rn (qP w4.heap.size) im im (qP w5.heap.size) en en)) (by simp [results,Tryz.results86,go_sem,s0,s1,s2,s3,s4,s5,s6,s7]) rfl ?_;obtain ⟨⟨⟨⟨⟨⟨⟨_,r1⟩,r2⟩,r3⟩,r5⟩,r6⟩,r7⟩,hB⟩:=HRF.o;exact ⟨w.heap.size+1+1+1,w1.heap.size,w2.heap.size,w3.heap.size,w4.heap.size,w5.heap.size,rfl,by omega,by omega,by omega,by omega,by omega,by omega,r1,r2,r3,r5,r6,r7,hB⟩
end Go.Proofs.YtncccmeomcaabaaGreat
namespace Go.Proofs.YtncccmeomcaabaaGreat
open Go Go.Maps Go.WideShapes
def fd (f:Nat->List UInt8):Nat->DataW Unit
 | 0=>.map []
 | k+1=>if has (fd f k) (.string (f k)) then fd f k else (fd f k).put (.string (f k)) (.lit (.int .i64 k))
theorem jH (f:Nat->List UInt8)(k:Nat):fd f (k+1)=if has (fd f k) (.string (f k)) then fd f k else (fd f k).put (.string (f k)) (.lit (.int .i64 k)):=rfl
theorem aA2 (s:List UInt8):WideAt.IsKeyLit (.string s):=by simp [WideAt.IsKeyLit]
theorem lG (f:Nat->List UInt8):∀ k,Tidy (fd f k)
 | 0=>tidy_empty
 | k+1=>by
   rw [jH];split
   .exact lG f k
   .exact (lG f k).put (aA2 _) _
theorem aBb (f:Nat->List UInt8)(s:List UInt8):∀ k,has (fd f k) (.string s)=(List.range k).any (fun j=>f j==s)
 | 0=>rfl
 | k+1=>by
   rw [List.range_succ,List.any_append,<- aBb f s k];rw [jH];by_cases e:f k=s
   .subst e;split
    .rename_i h;rw [h];rfl
    .rw [has_put_same (lG f k).isMap (aA2 _)];simp
   .have e':(Lit.string s)≠.string (f k):=by intro h;injection h with h;exact e h.symm
    split
    .simp [e]
    .rw [has_put_other e'];simp [e]
theorem mJ (f:Nat->List UInt8):∀ k,size (fd f k)<=k
 | 0=>aN
 | k+1=>by
   have:=mJ f k;rw [jH];split
   .omega
   .rename_i h;rw [size_put (lG f k),if_neg h];omega
theorem aBa (f:Nat->List UInt8):∀ k,decide (size (fd f k)=k)=(List.range k).all (fun i=>(List.range i).all fun j=>!(f j==f i))
 | 0=>rfl
 | k+1=>by
   have h1:=mJ f k;rw [List.range_succ,List.all_append,<- aBa f k];have hh:=aBb f (f k) k;have e:(List.range k).all (fun j=>!(f j==f k))=!(has (fd f k) (.string (f k))):=by rw [hh];induction List.range k with|nil=>rfl|cons a l ih=>simp [ih]
   simp only [List.all_cons,List.all_nil,Bool.and_true,e];rw [jH];cases hb:has (fd f k) (.string (f k))
   .rw [if_neg (by simp),size_put (lG f k),hb,if_neg (by simp)];simp
   .rw [if_pos rfl];simp;omega
def fst? (f:Nat->List UInt8) (s:List UInt8):Nat->Option Nat
 | 0=>none
 | k+1=>match fst? f s k with|some j=>some j|none=>if f k=s then some k else none
theorem fF (f:Nat->List UInt8)(s:List UInt8)(k:Nat):fst? f s (k+1)=match fst? f s k with|some j=>some j|none=>if f k=s then some k else none:=rfl
theorem nI (f:Nat->List UInt8)(s:List UInt8):∀ k,(fst? f s k).isSome=has (fd f k) (.string s)
 | 0=>rfl
 | k+1=>by
   rw [aBb,List.range_succ,List.any_append,<- aBb,<- nI f s k];rw [fF];cases fst? f s k with
   | some j=>simp
   | none=>by_cases e:f k=s<;>simp [e]
theorem aLa (f:Nat->List UInt8)(s:List UInt8)(z:DataW Unit):∀ k,(fd f k).atKey (.string s) z=match fst? f s k with|some j=>.lit (.int .i64 j)|none=>z
 | 0=>rfl
 | k+1=>by
   have ih:=aLa f s z k;have hh:=nI f s k;rw [fF,jH];by_cases e:f k=s
   .subst e;cases hf:fst? f (f k) k with
    | some j=>rw [hf] at hh ih;simp only [Option.isSome_some] at hh;rw [if_pos hh.symm];simpa using ih
    | none=>rw [hf] at hh;simp only [Option.isSome_none] at hh;rw [if_neg (by rw [<- hh];simp),atKey_put_same (lG f k).isMap (aA2 _)];simp
   .have e':(Lit.string s)≠.string (f k):=by intro h;injection h with h;exact e h.symm
    split<;>(cases hf:fst? f s k with
     | some j=>rw [hf] at ih;simpa [atKey_put_other e'] using ih
     | none=>rw [hf] at ih;simpa [atKey_put_other e',e] using ih)
end Go.Proofs.YtncccmeomcaabaaGreat
namespace Go.Proofs.YtncccmeomcaabaaGreat
open Go.RowKit Go.Maps
set_option linter.all false
set_option maxRecDepth 100000
theorem vT:Keyed Tryz.prog 9:=string_keyed Tryz.underlying9
theorem pA (w:qw):(zeroValue 3).run Tryz.prog w=.ok (qI 0) w:=by kernel_rfl
theorem uC (s:ByteArray)(b i:Int)(w:qw):
 qC 125 #[.agg #[.string s,qI b,qI i]] w (qB w (.string s)):=by
 go_enter Tryz.func125,Tryz.ntmps125
 go_wp2;go_ret;exact ⟨rfl,bal⟩
theorem iE (x:Int)(w:qw):(Instr.makeMap 176 (some (qI x))).run Tryz.prog w=.ok (.map (some w.heap.size)) (w.alloc (.map #[] 0)):=by
 simp [Instr.makeMap,asInt,asIntOf,run_underlying Tryz.underlying176,Result.andThen]
def fM (es:List Ex)(i:Nat):List UInt8:=(es.getD i zE).1.data.toList
theorem nK (ea:qO)(n ec:Nat)(es:List Ex)(w:qw)(h:ES w ea n ec es)(hn:n<=1048576):
 qC 124 #[qS ea n ec,.func (.func 125) #[] #[]] w fun e w'=>e=.returned (.map (some w.heap.size))/\w'.ownsMap Tryz.prog 9 (plainElem Tryz.prog 3) w.heap.size n (fd (fM es) n)/\qY w w':=by
 have hmm:=iE;have hm1:=h.2.1;unfold maxLen at hm1;go_enter Tryz.func124,Tryz.ntmps124
 go_wp2;go_loopw [16] (fun i wr=>∃ k:Nat,k<=n/\i=qI k/\wr.ownsMap Tryz.prog 9 (plainElem Tryz.prog 3) w.heap.size k (fd (fM es) k)/\qY w wr) (qf n)
 .exact ⟨0,xC _,rfl,World.ownsMap_made _ _ _ _,bal⟩
 .obtain ⟨k,hk,rfl,hown,hB⟩:=hrel;by_cases hlt:k<n
  .have hlt':(k:Int)<(n:Int):=by omega
   obtain ⟨bb,off,rfl⟩:=h.addr (by omega);obtain ⟨y1,y2,y3⟩:=(h.bw hB).at k hlt;have hsz:=h.size k;have HX:=zh (jH (fM es) k);have hkl:fM es k=(es.getD k zE).1.data.toList:=rfl;rw [hkl] at HX;clear hkl;generalize es.getD k zE=E at *;obtain ⟨en,eb,ei⟩:=E;dsimp only at y1 y2 y3 hsz HX;have hkey:keyOf Tryz.prog 9 (.string en)=some (.string en.data.toList):=Go.WideMaps.keyOf_string_mk Tryz.underlying9 (by unfold maxLen;omega);have HKEY:=zh hkey;clear hkey;have hA:qY wr (wr.alloc (.cells #[.string en,qI eb,qI ei] 163)):=bal;go_wp2_with fail
   refine (uC en eb ei _).mono ?_;rintro e w1 ⟨rfl,hb1⟩;have hb1':=hA.trans (hb1.mono hA.size);have hB1:=hB.trans (hb1'.mono hB.size)
   have hown1:w1.ownsMap Tryz.prog 9 (plainElem Tryz.prog 3) w.heap.size k (fd (fM es) k):=by
    obtain ⟨es',cl,hh,r⟩:=hown;refine ⟨es',cl,?_,r⟩
    have hl:w.heap.size<wr.heap.size:=by
     rcases Nat.lt_or_ge w.heap.size wr.heap.size with h'|h'
     .exact h'
     .rw [Array.getElem?_eq_none h'] at hh;cases hh
    rw [hb1'.block _ hl];exact hh
   clear hown hA hb1 hb1' y1 y2 y3;cases hh:has (fd (fM es) k) (.string en.data.toList)
   .rw [hh] at HX
    go_wp2_with (first
     | (at_lookup;refine wpList_lookup_own_ok_int _ rfl _ _ 176 rfl 9 3 .i64 vT Tryz.underlying176 Tryz.underlying3 (pA _) w.heap.size k _ rfl hown1 _ _ rfl HKEY.o ?_;intro c hat hwc;clear hat;rw [hh])
     | (at_mapUpdate;refine wpList_mapUpdate_own _ rfl _ _ _ 176 rfl 9 3 vT Tryz.underlying176 _ w.heap.size k _ rfl hown1 (by unfold maxLen;omega) _ _ _ rfl rfl HKEY.o _ [] (plainElem_int Tryz.underlying3 (WalkArith.wf_i64 (by omega))) ?_;intro w2 hown2 hgr2))
    have HO:=zh hown2;have HB2:=zh (hB1.grown hgr2 hB1.size (fun j hj=>by cases hj;exact aN));clear hown2 hgr2 hown1;go_wp2
    go_roundw
    .exact ⟨k+1,by omega,by go_num,by have:=HO.o;rw [HX.o,if_neg (by simp)];exact this,HB2.o⟩
    .simp [qf,intOf];omega
   .rw [hh] at HX
    go_wp2_with (first
     | (at_lookup;refine wpList_lookup_own_ok_int _ rfl _ _ 176 rfl 9 3 .i64 vT Tryz.underlying176 Tryz.underlying3 (pA _) w.heap.size k _ rfl hown1 _ _ rfl HKEY.o ?_;intro c hat hwc;clear hat;rw [hh]))
    have HO:=zh hown1;clear hown1;go_wp2
    go_roundw
    .exact ⟨k+1,by omega,by go_num,by have:=HO.o;rw [HX.o,if_pos trivial];exact this.mono (by omega),hB1⟩
    .simp [qf,intOf];omega
  .have e:Zh (k=n):=by show k=n;omega
   go_wp2;go_ret;exact ⟨rfl,by rw [e.o] at hown;exact hown,hB⟩
