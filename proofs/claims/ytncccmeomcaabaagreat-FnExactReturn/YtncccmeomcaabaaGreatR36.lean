import Derived.ChangeMaps5
import Derived.Test.YtncccmeomcaabaaGreatR26
import Derived.Test.YtncccmeomcaabaaGreatR33
import Derived.Test.YtncccmeomcaabaaGreatR35
set_option linter.all false
set_option maxHeartbeats 16000000
namespace Go.Proofs.YtncccmeomcaabaaGreat
open Go.RowKit Classical
set_option maxRecDepth 100000
variable {M:Mn}{R:World->Prop}{S S':Nat->Prop}{W w:World}{a:qO}{arg cr cs:Array Value}{b base c g g0 g1 g2 g3 g4 g5 g6 n sz:Nat}{ms ms':List Md}
def Mn.cp (M:Mn)(g0 g1 g2 g3 g4 g5 g6:Nat)(ms':List Md):Mn:={ M with ma:=some (qR g0 0),mc:=M.mn,ms:=ms',ka:=some (qR g1 0),kc:=M.kn,fa:=some (qR g2 0),fc:=M.fn,ra:=some (qR g3 0),rc:=M.rn,oa:=some (qR g4 0),oc:=M.on,la:=some (qR g5 0),lc:=M.ln,ha:=some (qR g6 0),hc:=M.hn }
structure MnR (w:qw)(base:Nat)(M:Mn)(g0 g1 g2 g3 g4 g5 g6:Nat)(ms':List Md):Prop where
 b:base<=g0/\g0<g1/\g1<g2/\g2<g3/\g3<g4/\g4<g5/\g5<g6
 n:ms'.length=M.mn
 m:RowM w g0 M.mn M.ms ms'
 x:∃ W,RowM W g0 M.mn M.ms ms'/\W.heap.size<=g1
 k:RowI w g1 M.kz
 f:Row8 w g2 M.fz
 r:Row8 w g3 M.rz
 o:Row8 w g4 M.oz
 l:OG 142 4 bR w base (qS (qP g5) M.ln M.ln) M.lz
 h:OG 135 4 cO w base (qS (qP g6) M.hn M.hn) M.hz
theorem MnR.bw {w w':qw}(h:MnR w base M g0 g1 g2 g3 g4 g5 g6 ms')(hb:qY w w'):MnR w' base M g0 g1 g2 g3 g4 g5 g6 ms':=⟨h.b,h.n,h.m.bw hb,h.x,h.k.bw hb,h.f.bw hb,h.r.bw hb,h.o.bw hb,h.l.bw hb,h.h.bw hb⟩
theorem MnR.mnd {w W:qw}(h:MnR W base M g0 g1 g2 g3 g4 g5 g6 ms')(t:MnT w M)(b:MnB M):MnD W (M.cp g0 g1 g2 g3 g4 g5 g6 ms') where
 m:=aI4 h.m h.n t.m b.m
 k:=h.k.is (by have:=t.k.1;have:=t.k.2.1;omega) t.k.2.2.1 _ _ t.k.1
 f:=h.f.bs (by have:=t.f.1;have:=t.f.2.1;omega) t.f.2.2.1 _ _ t.f.1
 r:=h.r.bs (by have:=t.r.1;have:=t.r.2.1;omega) t.r.2.2.1 _ _ t.r.1
 o:=h.o.bs (by have:=t.o.1;have:=t.o.2.1;omega) t.o.2.2.1 _ _ t.o.1
 l:=oZ bM h.l
 h:=oZ cQ h.h
theorem aFm {α:Type}{t:TypeId}{f:α->List Value}{m:Nat}{xs:List α}(h:c<g):Stab c (fun W=>OG t sz f W b (qS (qP g) n m) xs):=fun W W' T r=>OG.kept r T (fun k hk=>by simp [Value.ownBlock] at hk;show ¬ k<=c;omega)
theorem aLl (h:c<g):Stab c (fun W=>RowM W g n ms ms'):=fun W W' T r=>by
 obtain ⟨⟨cur,hc,hs⟩,hq,hr⟩:=r;have T':Turn (fun j=>j<=g) W W':=T.mono (fun j hj=>by show j<=g;have:j<=c:=hj;omega);have kb:=aF T hc (by show ¬ g<=c;omega);have key:∀ o v,W.cell? (qR g o)=some v->W'.cell? (qR g o)=some v:=fun o v hv=>by rw [kb.cell,<- hc.cell];exact hv
 have at8:∀ o q,At8 W g o q->At8 W' g o q:=fun o q h=>by
  obtain ⟨h0,h1,h2,h3,h4,h5,h6,h7⟩:=h;exact ⟨key _ _ h0,key _ _ h1,key _ _ h2,key _ _ h3,key _ _ h4,key _ _ h5,key _ _ h6,key _ _ h7⟩
 exact ⟨⟨cur,kb,hs⟩,fun i hi=>by obtain ⟨q,h⟩:=hq i hi;exact ⟨q,at8 _ _ h⟩,fun i hi=>⟨at8 _ _ (hr i hi).1,lG _ _ _ _ _ T' (hr i hi).2⟩⟩
structure TQ (w W:qw)(arg cr cs:Array Value)(t1 t2:TypeId)(R:World->Prop):Prop where
 kb:Blk W w.heap.size arg t1
 kr:Blk W (w.heap.size+1) cr t2
 ko:Blk W (w.heap.size+1+1) cs t2
 hB:qY w W
 rows:R W
 st:Stab (w.heap.size+1+1) R
theorem TQ.bw {w W W':qw}{t1 t2:TypeId}(h:TQ w W arg cr cs t1 t2 R)(hb:qY W W'):TQ w W' arg cr cs t1 t2 R:=
 ⟨h.kb.bw hb,h.kr.bw hb,h.ko.bw hb,h.hB.trans (hb.mono h.hB.size),h.st _ _ (aJ hb) h.rows,h.st⟩
theorem TQ.set {w W:qw}{t1 t2:TypeId}(h:TQ w W arg cr cs t1 t2 R)(i:Nat)(v:Value):TQ w (W.setCell (qR (w.heap.size+1+1) i) v) arg cr (cs.setIfInBounds i v) t1 t2 R:=
 ⟨h.kb.other _ _ (by dsimp only;omega),h.kr.other _ _ (by dsimp only;omega),h.ko.set i v,h.hB.setCell (by dsimp only;omega) _,h.st _ _ (bP _ _ _ _ _ aN) h.rows,h.st⟩
theorem TQ.setr {w W:qw}{t1 t2:TypeId}(h:TQ w W arg cr cs t1 t2 R)(i:Nat)(v:Value):TQ w (W.setCell (qR (w.heap.size+1) i) v) arg (cr.setIfInBounds i v) cs t1 t2 R:=
 ⟨h.kb.other _ _ (by dsimp only;omega),h.kr.set i v,h.ko.other _ _ (by dsimp only;omega),h.hB.setCell (by dsimp only;omega) _,h.st _ _ (bP _ _ _ _ _) h.rows,h.st⟩
theorem TQ.add {w W:qw}{t1 t2:TypeId}{S:World->Prop}(h:TQ w W arg cr cs t1 t2 R)(r:S W)(s:Stab (w.heap.size+1+1) S):TQ w W arg cr cs t1 t2 (fun W=>R W/\S W):=
 ⟨h.kb,h.kr,h.ko,h.hB,⟨h.rows,r⟩,h.st.and s⟩
def aQa (w:qw)(M:Mn)(e:Ending)(w':qw):Prop:=∃ g0 g1 g2 g3 g4 g5 g6 ms',e=.returned (.agg (qK M g0 g1 g2 g3 g4 g5 g6))/\MnR w' w.heap.size M g0 g1 g2 g3 g4 g5 g6 ms'/\qY w w'
theorem uM (M:Mn)(w:qw)(h:MnT w M)(b:MnB M):qC 9 #[.agg (qA M)] w (aQa w M):=by
 have M0:TQ w (((w.alloc (.cells (qA M) 34)).alloc (.cells qZ 43)).alloc (.cells qZ 43)) (qA M) qZ qZ 34 43 (fun _=>True):=
  ⟨(
   (Blk.new w _ _).alloc _).alloc _,by have:=(Blk.new (w.alloc (.cells (qA M) 34)) qZ 43).alloc (.cells qZ 43);simpa using this,by have:=Blk.new ((w.alloc (.cells (qA M) 34)).alloc (.cells qZ 43)) qZ 43;simpa using this,
   (bal.alloc (by simp) _).alloc (by simp;omega) _,trivial,fun _ _ _ _=>trivial⟩
 have MX:=zh h;have MB:=zh b;clear h b;go_enter Tryz.func9,Tryz.ntmps9
 go_wp2_with fail
 refine (uL M.ma M.mn M.mc M.ms _ (MX.o.m.bw M0.hB) MB.o.n MB.o.m).mono ?_;rintro e w1 ⟨rfl,⟨ms',hl,hr⟩,hb1⟩;try unfold qY at *
 simp only [xF] at hr;have z1:w.heap.size+1+1+1<w1.heap.size:=by obtain ⟨⟨cur,hc,_⟩,_⟩:=hr;exact hc.lt
 have HXW:Zh (∃ W,RowM W (w.heap.size+1+1+1) M.mn M.ms ms'/\W.heap.size<=w1.heap.size):=⟨w1,hr,aN⟩;have M1:=(M0.bw hb1).add hr (aLl (Nat.lt_succ_self _));clear M0 hb1 hr;have o0:=M1.ko.e0;have of:=M1.ko.frozen;have q1:=M1.kb.e1;have q2:=M1.kb.e2;have q3:=M1.kb.e3;have q4:=M1.kb.e4;have M1a:=(M1.set 0 (qS (some (qR (w.heap.size+1+1+1) 0)) M.mn M.mn));simp only [yA,yB,yC] at M1a;clear M1;have HM:=zh M1a;have r1:=M1a.kb.cell 1;have r2:=M1a.kb.cell 2;have r3:=M1a.kb.cell 3;have r4:=M1a.kb.cell 4;go_wp2_with fail
 refine (yT M.cs M.cw M.ck M.cd _).mono ?_;rintro e w2 ⟨rfl,hb2⟩;have M2:=M1a.bw hb2;have z2:w1.heap.size<=w2.heap.size:=by have:=hb2.size;simpa using this
 clear HM o0 of q1 q2 q3 q4 r1 r2 r3 r4 M1a hb2;have o1:=M2.ko.e1;have o2:=M2.ko.e2;have o3:=M2.ko.e3;have o4:=M2.ko.e4;have of:=M2.ko.frozen;have q5:=M2.kb.e5;have q6:=M2.kb.e6;have M2a:=((((M2.set 1 (qI M.cs)).set 2 (qI M.cw)).set 3 (qI M.ck)).set 4 (qI M.cd));simp only [yA,yB,yC] at M2a;clear M2;have HM:=zh M2a;have r5:=M2a.kb.cell 5;have r6:=M2a.kb.cell 6;go_wp2_with fail
 refine (aDk M.pc M.ka M.kn M.kc M.kz _ (MX.o.k.bw M2a.hB) MB.o.k).mono ?_;rintro e w3 ⟨g1,hg1,rfl,hr3,hb3⟩;have z3:w2.heap.size<=g1/\g1<w3.heap.size:=⟨by simpa using hg1,hr3.lt⟩;have M3:=(M2a.bw hb3).add hr3 (rH (by omega));clear HM o1 o2 o3 o4 of q5 q6 r5 r6 M2a hb3 hg1 hr3;have o5:=M3.ko.e5;have o6:=M3.ko.e6;have of:=M3.ko.frozen;have q7:=M3.kb.e7;have q8:=M3.kb.e8;have q9:=M3.kb.e9;have M3a:=((M3.set 5 (qI M.pc)).set 6 (qS (qP g1) M.kn M.kn));simp only [yA,yB,yC] at M3a;clear M3;have HM:=zh M3a;have r7:=M3a.kb.cell 7;have r8:=M3a.kb.cell 8;have r9:=M3a.kb.cell 9;go_wp2_with fail
 refine (aGw M.fa M.ra M.oa M.fn M.fc M.rn M.rc M.on M.oc M.fz M.rz M.oz _ (MX.o.f.bw M3a.hB) (MX.o.r.bw M3a.hB) (MX.o.o.bw M3a.hB) MB.o.b).mono ?_;rintro e w4 ⟨g2,g3,g4,rfl,hg2,hg3,hg4,hf4,hr4,ho4,hb4⟩;have z4:w3.heap.size<=g2/\g4<w4.heap.size:=⟨by simpa using hg2,ho4.lt⟩;have M4:=(((M3a.bw hb4).add hf4 (rI (by omega))).add hr4 (rI (by omega))).add ho4 (rI (by omega));clear HM o5 o6 of q7 q8 q9 r7 r8 r9 M3a hb4 hg2 hf4 hr4 ho4;have o7:=M4.ko.e7;have o8:=M4.ko.e8;have o9:=M4.ko.e9;have o10:=M4.ko.e10;have o11:=M4.ko.e11;have of:=M4.ko.frozen;have q10:=M4.kb.e10;have q11:=M4.kb.e11;have q12:=M4.kb.e12;have M4a:=(((((M4.set 7 (qS (qP g2) M.fn M.fn)).set 8 (qS (qP g3) M.rn M.rn)).set 9 (qS (qP g4) M.on M.on)).set 10 (qI M.md)).set 11 (qI M.bk));simp only [yA,yB,yC] at M4a;clear M4;have HM:=zh M4a;have r10:=M4a.kb.cell 10;have r11:=M4a.kb.cell 11;have r12:=M4a.kb.cell 12;go_wp2_with fail
 refine (aBl M.la M.ln M.lc M.lz _ (MX.o.l.bw M4a.hB) MB.o.l).mono ?_;rintro e w5 ⟨rfl,hl5,hb5⟩;try unfold qY at *
 simp only [aL] at hl5;have z5:w4.heap.size<w5.heap.size:=(hl5.lt _ rfl).2;have M5:=(M4a.bw hb5).add hl5 (aFm (by omega));clear HM o7 o8 o9 o10 o11 of q10 q11 q12 r10 r11 r12 M4a hb5 hl5;have o12:=M5.ko.e12;have of:=M5.ko.frozen;have q13:=M5.kb.e13;have M5a:=(M5.set 12 (qS (qP w4.heap.size) M.ln M.ln));simp only [yA,yB,yC] at M5a;clear M5;have HM:=zh M5a;have r13:=M5a.kb.cell 13;go_wp2_with fail
 refine (yR M.ha M.hn M.hc M.hz _ (MX.o.h.bw M5a.hB) MB.o.h).mono ?_;rintro e w6 ⟨rfl,hl6,hb6⟩;try unfold qY at *
 simp only [aL] at hl6;have z6:w5.heap.size<w6.heap.size:=(hl6.lt _ rfl).2;have M6:=(M5a.bw hb6).add hl6 (aFm (by omega));clear HM o12 of q13 r13 M5a hb6 hl6;have o13:=M6.ko.e13;have o14:=M6.ko.e14;have of:=M6.ko.frozen;have q14:=M6.kb.e14;have t0:=M6.ko.e0;have t1:=M6.ko.e1;have t2:=M6.ko.e2;have t3:=M6.ko.e3;have t4:=M6.ko.e4;have t5:=M6.ko.e5;have t6:=M6.ko.e6;have t7:=M6.ko.e7;have t8:=M6.ko.e8;have t9:=M6.ko.e9;have t10:=M6.ko.e10;have t11:=M6.ko.e11;have t12:=M6.ko.e12;have p0:=M6.kr.e0;have p1:=M6.kr.e1;have p2:=M6.kr.e2;have p3:=M6.kr.e3;have p4:=M6.kr.e4;have p5:=M6.kr.e5;have p6:=M6.kr.e6;have p7:=M6.kr.e7;have p8:=M6.kr.e8;have p9:=M6.kr.e9;have p10:=M6.kr.e10;have p11:=M6.kr.e11;have p12:=M6.kr.e12;have p13:=M6.kr.e13;have p14:=M6.kr.e14;have pf:=M6.kr.frozen;have M7:=(((((((((((((((((M6.set 13 (qS (qP w5.heap.size) M.hn M.hn)).set 14 (qI M.tn)).setr 0 (qS (some (qR (w.heap.size+1+1+1) 0)) M.mn M.mn)).setr 1 (qI M.cs)).setr 2 (qI M.cw)).setr 3 (qI M.ck)).setr 4 (qI M.cd)).setr 5 (qI M.pc)).setr 6 (qS (qP g1) M.kn M.kn)).setr 7 (qS (qP g2) M.fn M.fn)).setr 8 (qS (qP g3) M.rn M.rn)).setr 9 (qS (qP g4) M.on M.on)).setr 10 (qI M.md)).setr 11 (qI M.bk)).setr 12 (qS (qP w4.heap.size) M.ln M.ln)).setr 13 (qS (qP w5.heap.size) M.hn M.hn)).setr 14 (qI M.tn));have HZ:=zh (xA z1 (xA z2 (xA z3 (xA z4 (xA z5 (xA z6 (xA hg3 hg4)))))));have H7:=zh M7;have HL:=zh hl;clear M6 M7 z1 z2 z3 z4 z5 z6 hg3 hg4 hl;go_wp2;refine bodyPost_ret (v:=.agg (qX M (some (qR (w.heap.size+1+1+1) 0)) M.mn M.mn (qP g1) M.kn M.kn (qP g2) M.fn M.fn (qP g3) M.rn M.rn (qP g4) M.on M.on (qP w4.heap.size) M.ln M.ln (qP w5.heap.size) M.hn M.hn)) (by simp [results,Tryz.results9,go_sem,p0,p1,p2,p3,p4,p5,p6,p7,p8,p9,p10,p11,p12,p13,p14]) rfl ?_;obtain ⟨z1,z2,z3,z4,z5,z6,hg3,hg4⟩:=HZ.o;obtain ⟨⟨⟨⟨⟨⟨⟨_,a0⟩,a1⟩,a2⟩,a3⟩,a4⟩,a5⟩,a6⟩:=H7.o.rows;exact ⟨w.heap.size+1+1+1,g1,g2,g3,g4,w4.heap.size,w5.heap.size,ms',rfl,⟨by omega,HL.o,a0,by obtain ⟨W,h1,h2⟩:=HXW.o;exact ⟨W,h1,by omega⟩,a1,a2,a3,a4,a5.mono (by omega),a6.mono (by omega)⟩,H7.o.hB⟩
theorem xK {α:Type}{f:α->List Value}{sz:Nat}(hf:∀ x,(f x).length=sz):∀ (xs:List α) (k:Nat),(xs.take k).flatMap f=(xs.flatMap f).take (k*sz)
 | [],k=>by simp
 | x::xs,0=>by simp
 | x::xs,k+1=>by
   have e:=xK hf xs k;rw [List.take_succ_cons,List.flatMap_cons,List.flatMap_cons,e,List.take_append,hf,show List.take ((k+1)*sz) (f x)=f x from List.take_of_length_le (by rw [hf,Nat.succ_mul];omega),show (k+1)*sz-sz=k*sz by rw [Nat.succ_mul];omega]
theorem OG.pop {α:Type}{t:TypeId}{f:α->List Value}{xs:List α}(hf:∀ x,(f x).length=sz)(h:OG t sz f w base (qS a (n+1) c) xs):OG t sz f w base (qS a n c) (xs.take n):=by
 obtain ⟨hl,h|⟨g,cap,cur,e,h1,h2,h3,h4,h5,h6⟩⟩:=h
 .exact absurd h.1 (by simp)
 .simp only [Value.slice.injEq] at e;obtain ⟨rfl,e2,rfl⟩:=e;have hn:(xs.take n).length=n:=by simp;omega
  unfold OG;rw [hn,xK hf,<- h6,List.take_take,Nat.min_eq_left (Nat.mul_le_mul_right _ (by omega))];exact ⟨by rw [List.length_take,Array.length_toList,h5];exact Nat.min_eq_left (Nat.mul_le_mul_right _ (by omega)),.inr ⟨g,c,cur,rfl,h1,h2,by omega,h4,h5,rfl⟩⟩
theorem MxO.pop {mid:Nat}{C:Cn}{Ls:List (PMod×Mb)}{β:Nat->Nat}(h:MxO W base mid C M Ls β)(e:M.hn=n+1):MxO W base mid { C with hz:=C.hz.take n } { M with hn:=n,hz:=C.hz.take n } Ls β:=by
 have q:=h.h;rw [e] at q;exact ⟨h.m,h.e,h.k,h.q,h.l,OG.pop cQ q,h.bm,h.bh,h.vs,⟨h.vz.1,h.vz.2.1,h.vz.2.2.1,h.vz.2.2.2.1,h.vz.2.2.2.2.1,h.vz.2.2.2.2.2.1,rfl⟩⟩
abbrev sf4 (W:World)(b:Nat)(x0 x1 x2 x3:Int):World:=(((W.setCell ⟨b,0,none⟩ (qI x0)).setCell ⟨b,1,none⟩ (qI x1)).setCell ⟨b,2,none⟩ (qI x2)).setCell ⟨b,3,none⟩ (qI x3)
theorem aFq (W:World)(b:Nat)(x0 x1 x2 x3:Int):Turn (fun j=>j=b) W (sf4 W b x0 x1 x2 x3):=(((aC W b _ _).trans (aC _ b _ _)).trans (aC _ b _ _)).trans (aC _ b _ _)
theorem Blk.f4 {t:TypeId}{y0 y1 y2 y3:Int}(k:Blk W b (qW y0 y1 y2 y3) t)(x0 x1 x2 x3:Int):Blk (sf4 W b x0 x1 x2 x3) b (qW x0 x1 x2 x3) t:=(((k.s0 (qI x0)).s1 (qI x1)).s2 (qI x2)).s3 (qI x3)
theorem aM9 {X Z:World}{G i:Nat}{v:Value}{t:TypeId}(hb:qY w X)(k:Blk w G cs t)(T:Turn (fun j=>w.heap.size<=j) (X.setCell ⟨G,i,none⟩ v) Z):qY (w.setCell ⟨G,i,none⟩ v) Z:=by
 refine ⟨T.os.trans hb.os,T.tape.trans hb.tape,T.output.trans hb.output,?_,fun j hj=>?_⟩
 .have:=T.size;rw [aL] at this ⊢;exact xM hb.size this
 .rw [aL] at hj;rw [T.block j (by rw [aL];have:=hb.size;omega) (by omega)];by_cases e:j=G
  .subst e;exact Eq.trans ((k.bw hb).set i v) (Eq.symm (k.set i v))
  .rw [heap_setCell_other _ _ _ _ e,heap_setCell_other _ _ _ _ e];exact hb.block j hj
theorem aL3 (w1:World)(G:Nat)(Y:Lyb)(C:Cn)(M:Mn)(v13 vr:Value)(w:World)(h:Mg w1 w G Y C M v13 vr)(n:Nat)(hn:C.hz.length=n+1)(x0 x1 x2 x3:Int)(hx:C.hz.getD n zFr=(x0,x1,x2,x3)):Calls Tryz.prog 92 #[.pointer (some ⟨G,21,none⟩)] w fun e w'=>e=.returned (.tuple #[.agg (qW x0 x1 x2 x3),.bool true])/\Mg w1 w' G Y { C with hz:=C.hz.take n } { M with hn:=n,hz:=C.hz.take n } v13 vr:=by
 obtain ⟨base,mid,Ls,β,mm,_,_⟩:=h.m;have eh:M.hn=n+1:=by rw [gD mm.h,hn]
 have mx:=(aQ mm.h).2.1;unfold maxLen at mx;obtain ⟨U,hU⟩:=eqx ((w.alloc (.cells (qW 0 0 0 0) 135)).alloc (.cells (qW 0 0 0 0) 135));have bU:qY w U:=by rw [hU];exact bal.alloc (by simp) _
 have k0:Blk U w.heap.size (qW 0 0 0 0) 135:=by rw [hU];exact (Blk.new _ _ _).alloc _
 have k1:Blk U (w.heap.size+1) (qW 0 0 0 0) 135:=by rw [hU];have:=Blk.new (w.alloc (.cells (qW 0 0 0 0) 135)) (qW 0 0 0 0) 135;simpa using this
 have hG:G<w.heap.size:=h.k.lt;obtain ⟨gh,oh,hg,q0,q1,q2,q3⟩:=((oZ (z:=zFr) cQ mm.h).bw bU).at n (by omega) _ _ _ _ rfl;rw [hx] at q0 q1 q2 q3;dsimp only at q0 q1 q2 q3
 have hgw:gh<w.heap.size:=by
  have:=(mm.h.lt gh (by rw [hg];rfl)).2;exact this
 have c22:U.cell? ⟨G,22,none⟩=some (qS M.ha M.hn M.hc):=(h.k.bw bU).cell 22;have f22:=(h.k.bw bU).frozen 22;rw [hg] at c22;obtain ⟨y0,y1,y2,y3⟩:=k0.z4;have yf:=k0.frozen;obtain ⟨z0,z1,z2,z3⟩:=k1.z4;have zf:=k1.frozen;have hw:IntKind.i64.wrap ((M.hn:Int)-1)=(n:Int):=by rw [show (M.hn:Int)-1=(n:Int) by omega,xP,xQ _ (by omega)]
 have h0:((M.hn:Int)==0)=false:=by simp;omega
 have hl1:(n:Int)<(M.hn:Int):=by omega
 have hl2:(n:Int)<=(M.hc:Int):=by have:=(aQ mm.h).2.2.1;omega
 have n1:¬ G=w.heap.size:=by omega
 have n2:¬ G=w.heap.size+1:=by omega
 have n3:¬ gh=w.heap.size+1:=by omega
 have n4:¬ w.heap.size=G:=by omega
 have n5:¬ w.heap.size+1=G:=by omega
 have HM:=zh (show Mg w1 (sf4 ((sf4 U (w.heap.size+1) x0 x1 x2 x3).setCell ⟨G,22,none⟩ (qS (some ⟨gh,oh,none⟩) n M.hc)) w.heap.size x0 x1 x2 x3) G Y { C with hz:=C.hz.take n } { M with hn:=n,hz:=C.hz.take n } v13 vr from by
  rw [<- hg]
  exact (h.put 22 (qS M.ha n M.hc) rfl (fun x=>x.pop eh)).bw (aM9 (aG bU (aFq U (w.heap.size+1) x0 x1 x2 x3) (fun j hj=>by omega) bU.size) h.k ((aFq _ w.heap.size x0 x1 x2 x3).mono (fun j hj=>by omega))))
 have HK:=zh (((aF (aFq U (w.heap.size+1) x0 x1 x2 x3) k0 (fun e=>by omega)).other ⟨G,22,none⟩ (qS (some ⟨gh,oh,none⟩) n M.hc) (by dsimp only;omega)).f4 x0 x1 x2 x3);have HU:=zh hU;clear hU bU k0 k1 h mm eh mx hx hgw;go_enter Tryz.func92,Tryz.ntmps92
 go_wp2_with (rw [<- HU.o])
 obtain ⟨t0,t1,t2,t3⟩:=HK.o.z4;exact bodyPost_ret_by (v:=.tuple #[.agg (qW x0 x1 x2 x3),.bool true]) (by simp [results,Tryz.results92,go_sem,t0,t1,t2,t3]) rfl ⟨rfl,HM.o⟩
theorem aJe (w1:World)(G:Nat)(Y:Lyb)(C:Cn)(M:Mn)(v13 vr:Value)(w:World)(h:Mg w1 w G Y C M v13 vr)(hn:C.hz.length=0):Calls Tryz.prog 92 #[.pointer (some ⟨G,21,none⟩)] w (qB w (.tuple #[.agg (qW 0 0 0 0),.bool false])):=by
 obtain ⟨base,mid,Ls,β,mm,_,_⟩:=h.m;have eh:M.hn=0:=by rw [gD mm.h,hn]
 obtain ⟨U,hU⟩:=eqx ((w.alloc (.cells (qW 0 0 0 0) 135)).alloc (.cells (qW 0 0 0 0) 135));have bU:qY w U:=by rw [hU];exact bal.alloc (by simp) _
 have k0:Blk U w.heap.size (qW 0 0 0 0) 135:=by rw [hU];exact (Blk.new _ _ _).alloc _
 have k1:Blk U (w.heap.size+1) (qW 0 0 0 0) 135:=by rw [hU];have:=Blk.new (w.alloc (.cells (qW 0 0 0 0) 135)) (qW 0 0 0 0) 135;simpa using this
 have c22:U.cell? ⟨G,22,none⟩=some (qS M.ha M.hn M.hc):=(h.k.bw bU).cell 22;rw [eh] at c22;obtain ⟨y0,y1,y2,y3⟩:=k0.z4;have yf:=k0.frozen;obtain ⟨z0,z1,z2,z3⟩:=k1.z4;have HB:=zh (aG bU (aFq U w.heap.size 0 0 0 0) (fun j hj=>by omega) bU.size);have HK:=zh (k0.f4 0 0 0 0);have HU:=zh hU;clear hU bU k0 k1 h mm eh;go_enter Tryz.func92,Tryz.ntmps92
 go_wp2_with (rw [<- HU.o])
 obtain ⟨t0,t1,t2,t3⟩:=HK.o.z4;exact bodyPost_ret_by (v:=.tuple #[.agg (qW 0 0 0 0),.bool false]) (by simp [results,Tryz.results92,go_sem,t0,t1,t2,t3]) rfl ⟨rfl,HB.o⟩
def lFr (C:Cn):FrT:=C.hz.getD (C.hz.length-1) zFr
def aJf (C:Cn):Cn:={ C with hz:=C.hz.take (C.hz.length-1) }
def aHa (C:Cn)(L:Lay):Cn:=dI (aJf C) L (lFr C).1 (lFr C).2.1 (lFr C).2.2.1
def nR (C:Cn)(L:Lay):Cn:={ aHa C L with kz:=(aHa C L).kz.set 7 (lFr C).2.2.2 }
theorem qU (C:Cn)(L:Lay)(m b t:Int):(dI C L m b t).kz.length=C.kz.length:=by unfold dI;split<;>simp
def GbP (w1 w:World)(G:Nat)(Y:Lyb)(C:Cn)(M:Mn)(v13:Value)(e:Ending)(w':World):Prop:=
 if C.hz.length≠0/\C.tn<1000000000 then e=.returned (.bool true)/\∃ M' vr',Mg w1 w' G Y (nR C Y.L) M' v13 vr' else e=.returned (.bool false)/\qY w w'
theorem aEw (w1:World)(G:Nat)(Y:Lyb)(C:Cn)(M:Mn)(v13 vr:Value)(w:World)(h:Mg w1 w G Y C M v13 vr)(hv:Cv C Y.L)(hf:∀ i,i<C.hz.length->frk C.ps (C.hz.getD i zFr)):
 Calls Tryz.prog 39 #[.pointer (qP G)] w (GbP w1 w G Y C M v13):=by
 have c14:w.cell? ⟨G,14,none⟩=some (qI M.tn):=h.k.cell 14;have etn:=h.vs.1.2.2.2.2.2.2.2;by_cases c1:C.tn=1000000000
 .refine Calls.mono (R:=fun e w'=>e=.returned (.bool false)/\qY w w') ?_ (fun e w' he=>by unfold GbP;rw [if_neg (by omega)];exact he);have ht:(M.tn==1000000000)=true:=by rw [etn,c1];rfl
  clear h hv hf c1 etn;go_enter Tryz.func39,Tryz.ntmps39
  go_wp2;go_ret;exact ⟨rfl,brf⟩
 have ht:(M.tn==1000000000)=false:=by rw [etn];simpa using c1
 by_cases c2:C.hz.length=0
 .refine Calls.mono (R:=fun e w'=>e=.returned (.bool false)/\qY w w') ?_ (fun e w' he=>by unfold GbP;rw [if_neg (by omega)];exact he);have HP:=zh (aJe w1 G Y C M v13 vr w h c2);clear h hv hf c1 etn;go_enter Tryz.func39,Tryz.ntmps39
  go_wp2_with fail
  refine HP.o.mono ?_;rintro e X1 ⟨rfl,hb⟩;have HB:=zh (hb.trans ((bal (w:=X1) (o:=.cells (qW 0 0 0 0) 135)).mono hb.size));clear hb;go_wp2;go_ret;exact ⟨rfl,HB.o⟩
 refine Calls.mono (R:=fun e w'=>e=.returned (.bool true)/\∃ M' vr',Mg w1 w' G Y (nR C Y.L) M' v13 vr') ?_ (fun e w' he=>by unfold GbP;rw [if_pos ⟨c2,by have:=hv.t.2;omega⟩];exact he);obtain ⟨n,hn⟩:∃ n,C.hz.length=n+1:=⟨C.hz.length-1,by omega⟩;obtain ⟨⟨x0,x1,x2,x3⟩,hx⟩:=eqx (C.hz.getD n zFr);have HF:=zh (show frk C.ps (x0,x1,x2,x3) by rw [hx];exact hf n (by omega))
 have HR:=zh (show nR C Y.L={ dI { C with hz:=C.hz.take n } Y.L x0 x1 x2 with kz:=(dI { C with hz:=C.hz.take n } Y.L x0 x1 x2).kz.set 7 x3 } by
  unfold nR aHa aJf lFr
  rw [hn,show n+1-1=n by omega,<- hx])
 have HP:=zh (aL3 w1 G Y C M v13 vr w h n hn x0 x1 x2 x3 hx.symm);have HEN:=zh (fun (X:World) (vr':Value) (hX:Mg w1 X G Y { C with hz:=C.hz.take n } { M with hn:=n,hz:=C.hz.take n } v13 vr')=>aH6 w1 G Y _ _ v13 vr' x0 x1 x2 X hX ⟨hv.k,hv.e,hv.b,hv.r,hv.g,hv.s,hv.n,hv.t⟩);have HG:=zh hv.g;have HT:=zh (show C.tn<1000000000 by have:=hv.t.2;omega);clear h hv hf hn hx c1 c2 etn;go_enter Tryz.func39,Tryz.ntmps39
 go_wp2_with fail
 refine HP.o.mono ?_;rintro e X1 ⟨rfl,h1⟩;obtain ⟨U,hU,bU,kU⟩:=nwb X1 (qW x0 x1 x2 x3) 135;have H1:=zh (xA (h1.bw bU) kU);have HU:=zh hU;obtain ⟨y0,y1,y2,y3⟩:=kU.z4;have HTG:=zh (fun (X:World)=>jN x0 x1 x2 x3 X);clear h1 hU bU kU c14 ht HP;go_wp2_with (rw [<- HU.o])
 refine (HTG.o _).mono ?_;rintro e X2 ⟨rfl,hb2⟩;have H2:=zh (xA (H1.o.1.bw hb2) (H1.o.2.bw hb2));clear hb2 y0 y1 y2 y3;go_wp2_with fail
 refine (HEN.o X2 vr H2.o.1).mono ?_;intro e X3 he;unfold EtP at he;rw [if_pos ⟨HT.o,HF.o.1⟩] at he;obtain ⟨rfl,M',vr',h3,T3⟩:=he;have k3:=T3.blk H2.o.2 (by unfold gkd;decide);have y3:=k3.e3
 obtain ⟨gk,hgk,hgn,x7,xf,n1,n2,n3,n4⟩:∃ gk,M'.ka=some ⟨gk,0,none⟩/\M'.kn=8/\(∃ u,X3.cell? ⟨gk,7,none⟩=some u)/\(∀ i,X3.frozen? ⟨gk,i,none⟩=false)/\¬ gk=G/\¬ G=gk/\¬ gk=X1.heap.size/\¬ X1.heap.size=gk:=by
  obtain ⟨base,mid,Ls,β,mm,_⟩:=h3.m;have mk:=mm.k;have e8:M'.kn=8:=by rw [mB mk,qU];exact HG.o
  obtain ⟨gk,cp,e,_⟩:=World.ownsRow.form mk.1 (by rw [qU];show 0<C.kz.length;rw [HG.o];decide);simp only [Value.slice.injEq] at e;rw [e.1] at mk;obtain ⟨cs,kb⟩:=aD mk.1 (k:=gk) rfl;have q1:gk≠G:=fun q=>by subst q;exact absurd (aI kb h3.k) (by decide)
  have q2:gk≠X1.heap.size:=fun q=>by rw [q] at kb;exact absurd (aI kb k3) (by decide)
  exact ⟨gk,e.1,e8,⟨_,mk.is.at 7 (by omega)⟩,kb.frozen,q1,fun q=>q1 q.symm,q2,fun q=>q2 q.symm⟩
 obtain ⟨u,x7⟩:=x7;have c6:X3.cell? ⟨G,6,none⟩=some (qS (some ⟨gk,0,none⟩) 8 M'.kc):=by rw [<- hgk,<- hgn];exact h3.k.cell 6
 have H3:=zh (show Mg w1 (X3.setCell ⟨gk,7,none⟩ (qI x3)).drew G Y (nR C Y.L) { M' with kz:=(dI { C with hz:=C.hz.take n } Y.L x0 x1 x2).kz.set 7 x3 } v13 vr' from by
  rw [HR.o]
  exact (h3.reg hgk 7 (by omega) x3 (by have:=HF.o.2;dsimp only at this;unfold wfi;omega)).bw brf.drew)
 clear h3 T3 k3 hgk hgn;go_wp2_with fail
 go_region_held3 (fun w'=>w'.cell? ⟨G,6,none⟩=some (qS (some ⟨gk,0,none⟩) 8 M'.kc)/\w'.cell? ⟨X1.heap.size,3,none⟩=some (qI x3)) (go_keep) (fail)
 go_wp2;go_ret;exact ⟨rfl,_,_,H3.o⟩
section
variable {zc:Array Value}{t:TypeId}{n g:Nat}{ms m:List Md}{L:Lay}{W0 X Y:qw}{o:Option Nat}{b0:qO}{d0:Nat}{ys:List PB}{b2:qO}{d2:Nat}{b5:qO}{d5:Nat}{us:List TB}
end
theorem aG7 {W w:qw}{cap:Nat}(h:RowM W c n ms ms')(hl:ms'.length=n)(hm:MS w a n cap ms):upS (gI ms' (fun i=>bnF (ms'.getD i aK))) n<=3*(n+upS (fun j=>(ms.getD j aK).size) n):=by
 have key:∀ i,i<n->gI ms' (fun i=>bnF (ms'.getD i aK)) i<=2+3*(ms.getD i aK).size:=fun i hi=>by
  have hc:=(h.2.2 i (by omega)).2;have e1:=(uA (hm.2.2.2.1 i hi) hc).2
  have e2:(ms'.getD i aK).tn=(ms.getD i aK).tn/\(ms'.getD i aK).bn=(ms.getD i aK).bn/\(ms'.getD i aK).dn=(ms.getD i aK).dn/\(ms'.getD i aK).rn=(ms.getD i aK).rn/\(ms'.getD i aK).im=(ms.getD i aK).im/\(ms'.getD i aK).en=(ms.getD i aK).en:=by
   obtain ⟨g1,g2,g3,g5,g6,g7,gs,e,_⟩:=hc;rw [e];exact ⟨rfl,rfl,rfl,rfl,rfl,rfl⟩
  obtain ⟨f1,f2,f3,f4,f5,f6⟩:=e2;have e3:(ms.getD i aK).size=(ms.getD i aK).nm.size+(ms.getD i aK).tn+((ms.getD i aK).bn+upS (fun j=>((ms.getD i aK).bl.getD j zB).2.1) (ms.getD i aK).bn)+(ms.getD i aK).dn+(ms.getD i aK).rn+((ms.getD i aK).im+upS (fun j=>((ms.getD i aK).ss.getD j zS).size) (ms.getD i aK).im)+((ms.getD i aK).en+upS (fun j=>((ms.getD i aK).es.getD j zE).1.size) (ms.getD i aK).en):=rfl;unfold gI;rw [e1,f1,f3,f4,f5,f6,e3];omega
 have hsum:∀ q,q<=n->upS (gI ms' (fun i=>bnF (ms'.getD i aK))) q<=2*q+3*upS (fun j=>(ms.getD j aK).size) q:=by
  intro q
  induction q with
  | zero=>intro _;simp [upS]
  | succ q ih=>
    intro hq;have h1:=ih (by omega);have h2:=key q (by omega);show upS _ q+gI ms' (fun i=>bnF (ms'.getD i aK)) q<=2*(q+1)+3*(upS _ q+(ms.getD q aK).size);omega
 have:=hsum n aN;omega
def aP4 (ps:List PMod)(L:Lay):Decidable (uJ ps L):=
 have:=lokD ps L
 have:∀ b s,Decidable (sOk L b s):=fun _ _=>inferInstance
 decidable_of_iff (Lok ps L/\∀ m,m<ps.length->∀ b,b<(ps.getD m zP).bl.length+1->∀ s,s<L.slots.length+1->0<=pcq ps (m:Int) ((b:Int)-1)->sOk L ((b:Int)-1) ((s:Int)-1)->(plR ps L (m:Int) ((b:Int)-1) ((s:Int)-1)).length<=8) (by
  unfold uJ;refine and_congr_right fun _=>⟨fun h m b s hp hs=>?_,fun h m _ b _ s _=>h m _ _⟩
  have hmb:(0<=m/\m<(ps.length:Int))/\(b=-1\/(0<=b/\b<((ps.getD m.toNat zP).bl.length:Int))):=by
   unfold pcq at hp;split at hp
   .refine ⟨by assumption,?_⟩;split at hp
    .exact .inl (by assumption)
    .split at hp
     .exact .inr (by assumption)
     .exact absurd hp (by decide)
   .exact absurd hp (by decide)
  have hs':=hs.fit;have:=h m.toNat (by omega) (b+1).toNat (by omega) (s+1).toNat (by omega);rw [show ((m.toNat:Nat):Int)=m by omega,show (((b+1).toNat:Nat):Int)-1=b by omega,show (((s+1).toNat:Nat):Int)-1=s by omega] at this
  exact this hp hs)
def aP0 (ps:List PMod)(L:Lay)(cs cw T:Int)(rz:qi)(xs:List SlT):Decidable (cU ps L cs cw T rz xs):=by unfold cU mP slk aln cmn;infer_instance
def aP2 (M:Mn):Decidable (MOk M):=
 have:=aP4 (aE M.ms) M.L;have:=aP0 (aE M.ms) M.L M.cs M.cw M.tn M.rz M.lz;have:Decidable (vA (aE M.ms) M.cs M.md M.bk M.lz):=by unfold vA;infer_instance
 have:Decidable (jM (aE M.ms) M.cd M.hz):=by unfold jM;infer_instance
 decidable_of_iff (lkc (aE M.ms) M.cs M.cw M.ck M.cd=0/\uJ (aE M.ms) M.L/\cok M.pc M.kn M.kz=true/\mok M.fn M.rn M.on=true/\imF (aE M.ms) M.L=M.fz/\(M.rn:Int)=M.L.ram/\(0<=M.tn/\M.tn<=1000000000)/\cU (aE M.ms) M.L M.cs M.cw M.tn M.rz M.lz/\vA (aE M.ms) M.cs M.md M.bk M.lz/\jM (aE M.ms) M.cd M.hz) ⟨fun ⟨h1,h2,h3,h4,h5,h6,h7,h8,h9,h10⟩=>⟨h1,h2,h3,h4,h5,h6,h7,h8,h9,h10⟩,fun h=>⟨h.l,h.p,h.c,h.b,h.f,h.r,h.t,h.s,h.n,h.h⟩⟩
theorem nQ {W W':qw}(h:Sl S W a n sz)(h':Sl S' W' a n sz):Sl (fun j=>S j/\S' j) W a n sz:=fun hn=>by
 obtain ⟨g,o,cs,t,ha,hs,hb,hl⟩:=h hn;obtain ⟨g',o',_,_,ha',hs',_,_⟩:=h' hn;rw [ha] at ha';cases ha'
 exact ⟨g,o,cs,t,ha,⟨hs,hs'⟩,hb,hl⟩
theorem aMh {W W':qw}{F:Nat->Nat->Rw3}(h:Mrs S W c n ms F)(h':Mrs S' W' c n ms F):Mrs (fun j=>S j/\S' j) W c n ms F:=
 ⟨fun q=>h.nc q.1,h.head,fun i hi=>⟨nQ (h.rows i hi).t (h'.rows i hi).t,⟨fun hn=>by obtain ⟨g,o,cs,t,ha,hs,hb,hl⟩:=(h.rows i hi).b.head hn;exact ⟨g,o,cs,t,ha,fun q=>hs q.1,hb,hl⟩,fun j hj=>nQ ((h.rows i hi).b.rows j hj) ((h'.rows i hi).b.rows j hj)⟩,nQ (h.rows i hi).d (h'.rows i hi).d,nQ (h.rows i hi).r (h'.rows i hi).r,nQ (h.rows i hi).i (h'.rows i hi).i,nQ (h.rows i hi).e (h'.rows i hi).e,(h.rows i hi).g⟩⟩
theorem aDf (M:Mn)(base g0 g1 g2 g3 g4 g5 g6:Nat)(ms':List Md)(w0 W6 W:qw)(h:MnR W6 base M g0 g1 g2 g3 g4 g5 g6 ms')(t:MnT w0 M)(b:MnB M)(hb:qY W6 W):
 qC 12 #[.agg (qK M g0 g1 g2 g3 g4 g5 g6),qI 1] W fun e w'=>∃ k:Nat,e=.returned (qI k)/\Turn (fun j=>base<=j/\j<W6.heap.size) W w':=by
 obtain ⟨V,hV,bV,kV⟩:=nwb W (qK M g0 g1 g2 g3 g4 g5 g6) 43;have b6:=hb.trans (bV.mono hb.size);have hV6:=h.bw b6;obtain ⟨W',hx,hx1⟩:=h.x;obtain ⟨q0,q1,q2,q3,q4,q5,q6⟩:=h.b;have l6:=(h.h.lt g6 rfl).2;have hs:=hb.size;have mr:=(aMh (aB1 h.m h.n t.m) (aB1 hx h.n t.m)).kept (Mkd.bw b6);have c3:=aG7 h.m h.n t.m;have bs:=b.s;obtain ⟨_,z2,z3⟩:=aI5 h.m h.n t.m (by omega);have C0:=zh (sQ _ g0 M.mn M.mn 1 ms' _ V mr (by omega) z2 z3 b.n);generalize upS (gI ms' fun i=>bnF (ms'.getD i aK)) M.mn=u at C0 c3;have i1:OI V base (qS (qP g1) M.kn M.kn) M.kz:=by have e:=t.k.1;have:=hV6.k.oi (base:=base) (by omega) (by have:=t.k.2.1;omega) t.k.2.2.1;rw [e] at this;exact this
 have i2:gL V base (qS (qP g2) M.fn M.fn) (qS (qP g3) M.rn M.rn) (qS (qP g4) M.on M.on) M.fz M.rz M.oz:=⟨lD hV6.f t.f.1 (by omega) (by have:=t.f.2.1;omega) t.f.2.2.1,lD hV6.r t.r.1 (by omega) (by have:=t.r.2.1;omega) t.r.2.2.1,lD hV6.o t.o.1 (by omega) (by have:=t.o.2.1;omega) t.o.2.2.1,fun k j hk hj=>by simp [Value.ownBlock] at hk hj;omega,fun k j hk hj=>by simp [Value.ownBlock] at hk hj;omega,fun k j hk hj=>by simp [Value.ownBlock] at hk hj;omega⟩;have i3:=hV6.l;have i4:=hV6.h;have HQ:=zh (xA q0 (xA q1 (xA q2 (xA q3 (xA q4 (xA q5 (xA q6 (xA l6 hs))))))));have HW':=zh hx1;have HZ:=zh (xA (show Turn (fun j=>base<=j/\j<W6.heap.size) W V/\Blk V W.heap.size (qK M g0 g1 g2 g3 g4 g5 g6) 43 from ⟨aJ bV,kV⟩) (xA i1 (xA i2 (xA i3 i4))));have HV:=zh hV;obtain ⟨p0,p1,p2,p3,p4,p5,p6,p7,p8,p9,p10,p11,p12,p13,p14⟩:=kV.mc;clear hV bV kV b6 hV6 hx hx1 q0 q1 q2 q3 q4 q5 q6 l6 hs mr z2 z3 i1 i2 i3 i4 h t b hb;go_enter Tryz.func12,Tryz.ntmps12
 go_wp2_with (rw [<- HV.o])
 refine C0.o.mono ?_;rintro e w1 ⟨rfl,mk⟩
 have HZ1:=zh (show (Turn (fun j=>base<=j/\j<W6.heap.size) W w1/\Blk w1 W.heap.size (qK M g0 g1 g2 g3 g4 g5 g6) 43)/\(OI w1 base (qS (qP g1) M.kn M.kn) M.kz)/\(gL w1 base (qS (qP g2) M.fn M.fn) (qS (qP g3) M.rn M.rn) (qS (qP g4) M.on M.on) M.fz M.rz M.oz)/\(OG 142 4 bR w1 base (qS (qP g5) M.ln M.ln) M.lz)/\OG 135 4 cO w1 base (qS (qP g6) M.hn M.hn) M.hz from by
  obtain ⟨⟨T0,k0⟩,i1,i2,i3,i4⟩:=HZ.o;have q:=HQ.o;have q':=HW'.o;have T:=mk.turn;have ns:∀ k,g1<=k->¬ ((Sm W6 g0 k/\Sm W' g0 k)\/k=g0):=fun k hk s=>by rcases s with ⟨_,s⟩|s;exact absurd s.2.1 (by omega);omega
  exact ⟨⟨T0.trans (T.mono (fun j hj=>by rcases hj with ⟨s,_⟩|s;exact ⟨by have:=s.1;omega,s.2.1⟩;exact ⟨by omega,by omega⟩)),aF T k0 (ns _ (by omega))⟩,aW T i1 (fun k hk=>ns k (by simp only [Value.ownBlock,Option.some.injEq] at hk;omega)),dY i2 T (fun j hj=>ns j (by rcases hj with hk|hk|hk<;>(simp only [Value.ownBlock,Option.some.injEq] at hk;omega))),i3.kept T (fun k hk=>ns k (by simp only [Value.ownBlock,Option.some.injEq] at hk;omega)),i4.kept T (fun k hk=>ns k (by simp only [Value.ownBlock,Option.some.injEq] at hk;omega))⟩)
 clear mk p0 p1 p2 p3 p4 p5 p6 p7 p8 p9 p10 p11 p12 p13 p14 HZ C0 HV;have C1:=zh (sS M.pc (qP g1) M.kn M.kn base _ (1+u) w1 HZ1.o.2.1 (by omega) (by omega));obtain ⟨p0,p1,p2,p3,p4,p5,p6,p7,p8,p9,p10,p11,p12,p13,p14⟩:=HZ1.o.1.2.mc;go_wp2_with fail
 refine C1.o.mono ?_;rintro e w2 ⟨rfl,_,T⟩
 have HZ2:=zh (show (Turn (fun j=>base<=j/\j<W6.heap.size) W w2/\Blk w2 W.heap.size (qK M g0 g1 g2 g3 g4 g5 g6) 43)/\(gL w2 base (qS (qP g2) M.fn M.fn) (qS (qP g3) M.rn M.rn) (qS (qP g4) M.on M.on) M.fz M.rz M.oz)/\(OG 142 4 bR w2 base (qS (qP g5) M.ln M.ln) M.lz)/\OG 135 4 cO w2 base (qS (qP g6) M.hn M.hn) M.hz from by
  obtain ⟨⟨T0,k0⟩,i1,i2,i3,i4⟩:=HZ1.o;have q:=HQ.o;have ns:∀ k,g1<k->¬ (qS (qP g1) M.kn M.kn).ownBlock=some k:=fun k hk' hk=>by simp only [Value.ownBlock,Option.some.injEq] at hk;omega
  exact ⟨⟨T0.trans (T.mono (fun j hk=>⟨by simp only [Value.ownBlock,Option.some.injEq] at hk;omega,by simp only [Value.ownBlock,Option.some.injEq] at hk;omega⟩)),aF T k0 (ns _ (by omega))⟩,dY i2 T (fun j hj=>ns j (by rcases hj with hk|hk|hk<;>(simp only [Value.ownBlock,Option.some.injEq] at hk;omega))),i3.kept T (fun k hk=>ns k (by simp only [Value.ownBlock,Option.some.injEq] at hk;omega)),i4.kept T (fun k hk=>ns k (by simp only [Value.ownBlock,Option.some.injEq] at hk;omega))⟩)
 clear T p0 p1 p2 p3 p4 p5 p6 p7 p8 p9 p10 p11 p12 p13 p14 HZ1 C1;have C2:=zh (wN (qP g2) (qP g3) (qP g4) M.fn M.fn M.rn M.rn M.on M.on base _ _ _ (1+u+M.kn) w2 (qE HZ2.o.2.1) (by omega));obtain ⟨p0,p1,p2,p3,p4,p5,p6,p7,p8,p9,p10,p11,p12,p13,p14⟩:=HZ2.o.1.2.mc;go_wp2_with fail
 refine C2.o.mono ?_;rintro e w3 ⟨rfl,_,T⟩
 have HZ3:=zh (show (Turn (fun j=>base<=j/\j<W6.heap.size) W w3/\Blk w3 W.heap.size (qK M g0 g1 g2 g3 g4 g5 g6) 43)/\(OG 142 4 bR w3 base (qS (qP g5) M.ln M.ln) M.lz)/\OG 135 4 cO w3 base (qS (qP g6) M.hn M.hn) M.hz from by
  obtain ⟨⟨T0,k0⟩,i2,i3,i4⟩:=HZ2.o;have q:=HQ.o;have rg:∀ j,pX (qS (qP g2) M.fn M.fn) (qS (qP g3) M.rn M.rn) (qS (qP g4) M.on M.on) j->g2<=j/\j<=g4:=fun j hj=>by rcases hj with hk|hk|hk<;>(simp only [Value.ownBlock,Option.some.injEq] at hk;omega)
  exact ⟨⟨T0.trans (T.mono (fun j hk=>by have:=rg j hk;omega)),aF T k0 (fun s=>by have:=rg _ s;omega)⟩,i3.kept T (fun k hk s=>by have:=rg _ s;simp only [Value.ownBlock,Option.some.injEq] at hk;omega),i4.kept T (fun k hk s=>by have:=rg _ s;simp only [Value.ownBlock,Option.some.injEq] at hk;omega)⟩)
 clear T p0 p1 p2 p3 p4 p5 p6 p7 p8 p9 p10 p11 p12 p13 p14 HZ2 C2;have C3:=zh (lR (qP g5) M.ln M.ln base _ (1+u+M.kn+M.fn+M.rn+M.on) w3 HZ3.o.2.1 (by omega) (by omega));obtain ⟨p0,p1,p2,p3,p4,p5,p6,p7,p8,p9,p10,p11,p12,p13,p14⟩:=HZ3.o.1.2.mc;go_wp2_with fail
 refine C3.o.mono ?_;rintro e w4 ⟨rfl,_,T⟩
 have HZ4:=zh (show (Turn (fun j=>base<=j/\j<W6.heap.size) W w4/\Blk w4 W.heap.size (qK M g0 g1 g2 g3 g4 g5 g6) 43)/\OG 135 4 cO w4 base (qS (qP g6) M.hn M.hn) M.hz from by
  obtain ⟨⟨T0,k0⟩,i3,i4⟩:=HZ3.o;have q:=HQ.o
  exact ⟨⟨T0.trans (T.mono (fun j hk=>⟨by simp only [Value.ownBlock,Option.some.injEq] at hk;omega,by simp only [Value.ownBlock,Option.some.injEq] at hk;omega⟩)),aF T k0 (fun hk=>by simp only [Value.ownBlock,Option.some.injEq] at hk;omega)⟩,i4.kept T (fun k hk s=>by simp only [Value.ownBlock,Option.some.injEq] at hk s;omega)⟩)
 clear T p0 p1 p2 p3 p4 p5 p6 p7 p8 p9 p10 p11 p12 p13 p14 HZ3 C3;have C4:=zh (jY (qP g6) M.hn M.hn base _ (1+u+M.kn+M.fn+M.rn+M.on+4*M.ln) w4 HZ4.o.2 (by omega) (by omega));obtain ⟨p0,p1,p2,p3,p4,p5,p6,p7,p8,p9,p10,p11,p12,p13,p14⟩:=HZ4.o.1.2.mc;go_wp2_with fail
 refine C4.o.mono ?_;rintro e w5 ⟨rfl,_,T⟩
 have HF:=zh (show Turn (fun j=>base<=j/\j<W6.heap.size) W w5 from by
  have q:=HQ.o
  exact HZ4.o.1.1.trans (T.mono (fun j hk=>⟨by simp only [Value.ownBlock,Option.some.injEq] at hk;omega,by simp only [Value.ownBlock,Option.some.injEq] at hk;omega⟩)))
 clear T p0 p1 p2 p3 p4 p5 p6 p7 p8 p9 p10 p11 p12 p13 p14 HZ4 C4;go_wp2;go_ret;exact ⟨_,rfl,HF.o⟩
end Go.Proofs.YtncccmeomcaabaaGreat
namespace Go.Proofs.YtncccmeomcaabaaGreat
open Go.ChangeShapes Go.WideShapes Go.ChangeAt Go.RowKit Classical
variable {base fuel:Nat}{cs:List Value}{held:Bool}
theorem aFe (b off i:Nat):(Addr.add (qR b off) i)=(qR b (off+i)):=by
 simp only [Addr.add];split
 .next h=>subst h;rfl
 .rfl
set_option maxRecDepth 100000 in
theorem jC {H:Type}{enc:TypeId×Value->H}{w:qw}{x:DataW H×List MemPlace}
 (h:DataW.trod enc Tryz.prog w base (fun _=>true) held fuel 25 cs=some x):∃ a n cap zs,cs=[qS a n cap]/\IS w a n cap zs:=by
 rcases open_ints Tryz.underlying25 Tryz.underlying3 (by kernel_rfl) h with ⟨hcs,_⟩|⟨x,l,c,zs,hcs,_,hl,hm,hz,_,hcell,hwz⟩
 .exact ⟨none,0,0,[],hcs,rfl,Nat.zero_le _,by simp,fun h=>absurd rfl h,aN⟩
 .simp at hz;refine ⟨some x,l,c,zs.take l,hcs,by simp;omega,by omega,fun z hz'=>wf_i64 (hwz z (List.mem_of_mem_take hz')),fun hl0=>?_,hl⟩;obtain ⟨b,off,spot⟩:=x;have hspot:spot=none:=by simpa [Addr.add] using World.cell?_spot (hcell 0 (by omega))
  subst hspot;refine ⟨b,off,rfl,fun i hi=>?_⟩;have:=hcell i (by omega);rw [aFe] at this;rw [this];simp [List.getD_eq_getElem?_getD,hi]
set_option maxRecDepth 100000 in
theorem aDb {H:Type}{enc:TypeId×Value->H}{w:qw}{x:DataW H×List MemPlace}
 (h:DataW.trod enc Tryz.prog w base (fun _=>true) held fuel 114 cs=some x):∃ a n cap bl,cs=[qS a n cap]/\BKS w a n cap bl:=by
 have e1:Tryz.prog.cellsOf 25=1:=by kernel_rfl
 rcases Deep.open_slice Tryz.underlying114 h with ⟨hcs,_⟩|⟨a,len,cap,m,n,D,Pl,hcs,hb,hl,hm,hmm,hx,hd⟩
 .exact ⟨none,0,0,[],hcs,rfl,Nat.zero_le _,fun h=>absurd rfl h,fun i hi=>by omega,aN⟩
 .simp at hmm;rw [hmm] at hd;rw [e1] at hd
  obtain ⟨G,hG⟩:=Deep.choose_lt (α:=Bk) (p:=fun i g=>(∃ cs',w.cells? base (a.add (i*1)) 1=some cs'/\cs'=[qS g.1 g.2.1 g.2.2.1])/\IS w g.1 g.2.1 g.2.2.1 g.2.2.2) (n:=len) (fun i hi=>by
   obtain ⟨cs',h1,h2⟩:=hd i (by omega);obtain ⟨a',n',c',zs',e,hI⟩:=jC h2
   exact ⟨(a',n',c',zs'),⟨cs',h1,e⟩,hI⟩)
  have hgi:∀ i,i<len->((List.range len).map G).getD i zB=G i:=fun i hi=>by simp [List.getD_eq_getElem?_getD,hi]
  refine ⟨some a,len,cap,(List.range len).map G,hcs,by simp,by omega,?_,fun i hi=>by rw [hgi i hi];exact (hG i hi).2,hl⟩;intro hn;obtain ⟨b,off,spot⟩:=a
  have hspot:spot=none:=by
   obtain ⟨⟨cs',h1,h2⟩,_⟩:=hG 0 (by omega);have:=(World.cells?_some h1).2.2 0 (by omega);rw [h2] at this;simpa [Addr.add] using World.cell?_spot this
  subst hspot;refine ⟨b,off,rfl,fun i hi=>?_⟩;obtain ⟨⟨cs',h1,h2⟩,_⟩:=hG i hi;have hc:=(World.cells?_some h1).2.2;rw [h2] at hc;rw [hgi i hi];simp only [aFe] at hc;simpa using hc 0 (by omega)
set_option maxRecDepth 100000 in
theorem aDi {H:Type}{enc:TypeId×Value->H}{w:qw}{x:DataW H×List MemPlace}
 (h:DataW.trod enc Tryz.prog w base (fun _=>true) held fuel 115 cs=some x):∃ a n cap ss,cs=[qS a n cap]/\TS w a n cap ss:=by
 have e1:Tryz.prog.cellsOf 9=1:=by kernel_rfl
 have ez:zS.size<=maxLen:=by decide
 rcases Deep.open_slice Tryz.underlying115 h with ⟨hcs,_⟩|⟨a,len,cap,m,n,D,Pl,hcs,hb,hl,hm,hmm,hx,hd⟩
 .exact ⟨none,0,0,[],hcs,rfl,Nat.zero_le _,fun i=>by simpa using ez,fun h=>absurd rfl h,aN⟩
 .simp at hmm;rw [hmm] at hd;rw [e1] at hd
  obtain ⟨G,hG⟩:=Deep.choose_lt (α:=ByteArray) (p:=fun i g=>(∃ cs',w.cells? base (a.add (i*1)) 1=some cs'/\cs'=[Value.string g])/\g.size<=maxLen) (n:=len) (fun i hi=>by
   obtain ⟨cs',h1,h2⟩:=hd i (by omega);obtain ⟨s,e,_,hI⟩:=DataW.trod_string Tryz.underlying9 h2
   exact ⟨s,⟨cs',h1,e⟩,hI⟩)
  have hgi:∀ i,i<len->((List.range len).map G).getD i zS=G i:=fun i hi=>by simp [List.getD_eq_getElem?_getD,hi]
  refine ⟨some a,len,cap,(List.range len).map G,hcs,by simp,by omega,fun i=>?_,?_,hl⟩
  .by_cases hi:i<len
   .rw [hgi i hi];exact (hG i hi).2
   .rw [List.getD_eq_getElem?_getD,List.getElem?_eq_none (by simp;omega)];exact ez
  intro hn;obtain ⟨b,off,spot⟩:=a
  have hspot:spot=none:=by
   obtain ⟨⟨cs',h1,h2⟩,_⟩:=hG 0 (by omega);have:=(World.cells?_some h1).2.2 0 (by omega);rw [h2] at this;simpa [Addr.add] using World.cell?_spot this
  subst hspot;refine ⟨b,off,rfl,fun i hi=>?_⟩;obtain ⟨⟨cs',h1,h2⟩,_⟩:=hG i hi;have hc:=(World.cells?_some h1).2.2;rw [h2] at hc;rw [hgi i hi];simp only [aFe] at hc;simpa using hc 0 (by omega)
set_option maxRecDepth 100000 in
theorem aA0 {H:Type}{enc:TypeId×Value->H}{w:qw}{base:Nat}{held:Bool}{spare:Nat->Bool}{fuel:Nat}{cs:List Value}{x:DataW H×List MemPlace}
 (h:DataW.trod enc Tryz.prog w base spare held fuel 218 cs=some x):∃ g:Ex,cs=[.string g.1,qI g.2.1,qI g.2.2]/\g.1.size<=maxLen:=by
 obtain ⟨xs,n,_,_,hl,hlen,hf⟩:=DataW.trod_struct Tryz.underlying218 h;have e6:Tryz.prog.cellsOf 218=3:=by kernel_rfl
 rw [e6] at hl
 match xs,hlen,cs,hl with
 | [y0,y1,y2],_,[c0,c1,c2],_=>
 have k0:=hf 0 _ rfl;have k1:=hf 1 _ rfl;have k2:=hf 2 _ rfl;have e3:Tryz.prog.cellsOf 3=1:=by kernel_rfl
 have e4:Tryz.prog.cellsOf 9=1:=by kernel_rfl
 simp [e3,e4] at k0 k1 k2;obtain ⟨a0,h0,_,wa⟩:=DataW.trod_string Tryz.underlying9 k0;obtain ⟨a1,h1,_,wb⟩:=DataW.trod_int Tryz.underlying3 k1;obtain ⟨a2,h2,_,wc⟩:=DataW.trod_int Tryz.underlying3 k2;simp at h0 h1 h2;subst h0 h1 h2;exact ⟨(a0,a1,a2),rfl,wa⟩
set_option maxRecDepth 100000 in
theorem aDl {H:Type}{enc:TypeId×Value->H}{w:qw}{x:DataW H×List MemPlace}
 (h:DataW.trod enc Tryz.prog w base (fun _=>true) held fuel 116 cs=some x):∃ a n cap es,cs=[qS a n cap]/\TE w a n cap es:=by
 have e1:Tryz.prog.cellsOf 218=3:=by kernel_rfl
 have ez:(zE).1.size<=maxLen:=by decide
 rcases Deep.open_slice Tryz.underlying116 h with ⟨hcs,_⟩|⟨a,len,cap,m,n,D,Pl,hcs,hb,hl,hm,hmm,hx,hd⟩
 .exact ⟨none,0,0,[],hcs,rfl,Nat.zero_le _,fun i=>by simpa using ez,fun h=>absurd rfl h,aN⟩
 .simp at hmm;rw [hmm] at hd;rw [e1] at hd
  obtain ⟨G,hG⟩:=Deep.choose_lt (α:=Ex) (p:=fun i g=>(∃ cs',w.cells? base (a.add (i*3)) 3=some cs'/\cs'=[.string g.1,qI g.2.1,qI g.2.2])/\g.1.size<=maxLen) (n:=len) (fun i hi=>by
   obtain ⟨cs',h1,h2⟩:=hd i (by omega);obtain ⟨s,e,hI⟩:=aA0 h2
   exact ⟨s,⟨cs',h1,e⟩,hI⟩)
  have hgi:∀ i,i<len->((List.range len).map G).getD i zE=G i:=fun i hi=>by simp [List.getD_eq_getElem?_getD,hi]
  refine ⟨some a,len,cap,(List.range len).map G,hcs,by simp,by omega,fun i=>?_,?_,hl⟩
  .by_cases hi:i<len
   .rw [hgi i hi];exact (hG i hi).2
   .rw [List.getD_eq_getElem?_getD,List.getElem?_eq_none (by simp;omega)];exact ez
  intro hn;obtain ⟨b,off,spot⟩:=a
  have hspot:spot=none:=by
   obtain ⟨⟨cs',h1,h2⟩,_⟩:=hG 0 (by omega);have:=(World.cells?_some h1).2.2 0 (by omega);rw [h2] at this;simpa [Addr.add] using World.cell?_spot this
  subst hspot;refine ⟨b,off,rfl,fun i hi=>?_⟩;obtain ⟨⟨cs',h1,h2⟩,_⟩:=hG i hi;have hc:=(World.cells?_some h1).2.2;rw [h2] at hc;rw [hgi i hi];simp only [aFe] at hc;exact ⟨hc 0 (by omega),hc 1 (by omega),hc 2 (by omega)⟩
set_option maxRecDepth 100000 in
theorem aAf {H:Type}{enc:TypeId×Value->H}{w:qw}{base:Nat}{held:Bool}{fuel:Nat}{cs:List Value}{x:DataW H×List MemPlace}
 (h:DataW.trod enc Tryz.prog w base (fun _=>true) held fuel 118 cs=some x):∃ m:Md,cs=m.cells.toList/\m.mt w:=by
 obtain ⟨xs,n,_,_,hl,hlen,hf⟩:=DataW.trod_struct Tryz.underlying118 h;have e8:Tryz.prog.cellsOf 118=8:=by kernel_rfl
 rw [e8] at hl
 match xs,hlen,cs,hl with
 | [y0,y1,y2,y3,y4,y5,y6,y7],_,[c0,c1,c2,c3,c4,c5,c6,c7],_=>
 have k0:=hf 0 _ rfl;have k1:=hf 1 _ rfl;have k2:=hf 2 _ rfl;have k3:=hf 3 _ rfl;have k4:=hf 4 _ rfl;have k5:=hf 5 _ rfl;have k6:=hf 6 _ rfl;have k7:=hf 7 _ rfl;have e1:Tryz.prog.cellsOf 3=1:=by kernel_rfl
 have e2:Tryz.prog.cellsOf 9=1:=by kernel_rfl
 have e3:Tryz.prog.cellsOf 25=1:=by kernel_rfl
 have e4:Tryz.prog.cellsOf 114=1:=by kernel_rfl
 have e5:Tryz.prog.cellsOf 28=1:=by kernel_rfl
 have e6:Tryz.prog.cellsOf 115=1:=by kernel_rfl
 have e7:Tryz.prog.cellsOf 116=1:=by kernel_rfl
 simp [e1,e2,e3,e4,e5,e6,e7] at k0 k1 k2 k3 k4 k5 k6 k7;obtain ⟨nm,h0,_,w0⟩:=DataW.trod_string Tryz.underlying9 k0;obtain ⟨ta,tn,tc,tz,h1,w1⟩:=jC k1;obtain ⟨ba,bn,bc,bl,h2,w2⟩:=aDb k2;obtain ⟨da,dn,dc,dz,h3,w3⟩:=jH k3;obtain ⟨bss,h4,_,w4⟩:=DataW.trod_int Tryz.underlying3 k4;obtain ⟨ra,rn,rc,rz,h5,w5⟩:=jC k5;obtain ⟨ia,im,ic,ss,h6,w6⟩:=aDi k6;obtain ⟨ea,en,ec,es,h7,w7⟩:=aDl k7;simp at h0 h1 h2 h3 h4 h5 h6 h7;subst h0 h1 h2 h3 h4 h5 h6 h7;exact ⟨⟨nm,ta,tn,tc,tz,ba,bn,bc,bl,da,dn,dc,dz,bss,ra,rn,rc,rz,ia,im,ic,ss,ea,en,ec,es⟩,rfl,w0,w1,w2,w3,wf_i64 w4,w5,w6,w7⟩
set_option maxRecDepth 100000 in
theorem aD2 {H:Type}{enc:TypeId×Value->H}{w:qw}{x:DataW H×List MemPlace}
 (h:DataW.trod enc Tryz.prog w base (fun _=>true) held fuel 22 cs=some x):∃ a n cap ms,cs=[qS a n cap]/\MS w a n cap ms:=by
 have e1:Tryz.prog.cellsOf 118=8:=by kernel_rfl
 rcases Deep.open_slice Tryz.underlying22 h with ⟨hcs,_⟩|⟨a,len,cap,m,n,D,Pl,hcs,hb,hl,hm,hmm,hx,hd⟩
 .exact ⟨none,0,0,[],hcs,rfl,Nat.zero_le _,fun h=>absurd rfl h,fun i hi=>by omega,aN⟩
 .simp at hmm;rw [hmm] at hd;rw [e1] at hd
  haveI:Inhabited Md:=⟨aK⟩
  obtain ⟨G,hG⟩:=Deep.choose_lt (α:=Md) (p:=fun i g=>(∃ cs',w.cells? base (a.add (i*8)) 8=some cs'/\cs'=g.cells.toList)/\g.mt w) (n:=len) (fun i hi=>by
   obtain ⟨cs',h1,h2⟩:=hd i (by omega);obtain ⟨s,e,hI⟩:=aAf h2
   exact ⟨s,⟨cs',h1,e⟩,hI⟩)
  have hgi:∀ i,i<len->((List.range len).map G).getD i aK=G i:=fun i hi=>by simp [List.getD_eq_getElem?_getD,hi]
  refine ⟨some a,len,cap,(List.range len).map G,hcs,by simp,by omega,?_,fun i hi=>by rw [hgi i hi];exact (hG i hi).2,hl⟩;intro hn;obtain ⟨b,off,spot⟩:=a
  have hspot:spot=none:=by
   obtain ⟨⟨cs',h1,h2⟩,_⟩:=hG 0 (by omega);have:=(World.cells?_some h1).2.2 0 (by omega);rw [h2] at this;simpa [Addr.add,Md.cells] using World.cell?_spot this
  subst hspot;refine ⟨b,off,rfl,fun i hi=>?_⟩;obtain ⟨⟨cs',h1,h2⟩,_⟩:=hG i hi;have hc:=(World.cells?_some h1).2.2;rw [h2] at hc;rw [hgi i hi];simp only [aFe] at hc;exact ⟨hc 0 (by omega),hc 1 (by omega),hc 2 (by omega),hc 3 (by omega),hc 4 (by omega),hc 5 (by omega),hc 6 (by omega),hc 7 (by omega)⟩
