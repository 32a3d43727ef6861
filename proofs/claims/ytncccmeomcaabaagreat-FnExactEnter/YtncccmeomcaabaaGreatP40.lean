import Derived.Test.YtncccmeomcaabaaGreatP33
import Derived.Test.YtncccmeomcaabaaGreatP36
set_option linter.all false
set_option maxHeartbeats 4000000
namespace Go.Proofs.YtncccmeomcaabaaGreat
open Go.RowKit Classical
open Go.Proofs.Tryz
set_option maxRecDepth 100000
variable {A a:Act}{C:Cn}{F base c g g0 g1 g2 g3 g4 g5 g6 ga gb gt id k k2 lo:Nat}{M N:Mn}{Q:Exit->Act->World->Prop}{b t:Int}{d:Option Tmp}{m:Md}{ms':List Md}{ops:Array Oper}{p:String}{x:Value}
theorem aN9 {W:qw}{G:Nat}{ty:TypeId}{af:Array _}{gd:Option _}{v0 v1 v2 v3 v4 v5 v6 v7 v8 v9 v10 v11 v12 v13 v14:Value}(kb:Blk W G #[v0,v1,v2,v3,v4,v5,v6,v7,v8,v9,v10,v11,v12,v13,v14] 34)(h:a.tmps[k]?.getD undef=.pointer (qP G)):(execOp a.eval { dst:=d,op:=Op.load 34 (Operand.tmp k),type:=ty,pos:=p,after:=af,guard:=gd }).run prog W=.ok (.value (.agg #[v0,v1,v2,v3,v4,v5,v6,v7,v8,v9,v10,v11,v12,v13,v14])) W:=by
 obtain ⟨q0,q1,q2,q3,q4,q5,q6,q7,q8,q9,q10,q11,q12,q13,q14⟩:=kb.mc;go_simp
theorem aO9 (e:aD ms'=aD M.ms):MOk (M.cp g0 g1 g2 g3 g4 g5 g6 ms') ↔ MOk M:=by
 have eL:(M.cp g0 g1 g2 g3 g4 g5 g6 ms').L=M.L:=by unfold Mn.L;show lkL (aD ms') M.cs M.cw M.ck M.cd=_;rw [e]
 constructor
 .rintro ⟨l,p,c,b,f,r,t,s,n,h⟩;rw [eL] at p f r s;simp only [Mn.cp] at l p c b f r t s n h;rw [e] at l p f s n h;exact ⟨l,p,c,b,f,r,t,s,n,h⟩
 .rintro ⟨l,p,c,b,f,r,t,s,n,h⟩;rw [<- eL] at p f r s;rw [<- e] at l p f s n h;exact ⟨l,p,c,b,f,r,t,s,n,h⟩
theorem aOu {w W W':qw}{base':Nat}{k0 k1 k3 k4 k5 k6:Nat}{m1 m2:List Md}(t:MnT w M)(h:MnR W base M g0 g1 g2 g3 g4 g5 g6 m1)(h':MnR W' base' M k0 k1 k2 k3 k4 k5 k6 m2)(hm:∀ i,i<M.mn->aLv (m1.getD i aK) (m2.getD i aK)):Sam (M.cp g0 g1 g2 g3 g4 g5 g6 m1) (M.cp k0 k1 k2 k3 k4 k5 k6 m2):=
 ⟨⟨rfl,rfl,rfl,rfl,rfl,rfl,rfl,rfl⟩,⟨rfl,rfl,rfl,rfl,rfl,rfl,rfl⟩,⟨rfl,rfl,rfl,rfl,rfl,rfl⟩,hm⟩
theorem nV {α:Type}{f:α->List Value}{W:qw}{o n:Nat}{ys:List α}(h:Srd f W (some (qR g o)) n c ys)(c':Nat):Srd f W (some (qR g o)) ys.length c' ys:=⟨rfl,.inr (by obtain ⟨_,⟨e,_⟩|q⟩:=h;cases e;exact q)⟩
def Md.mb (m:Md):PMod×Mb:=(m.pm,⟨m.ta,m.tc,m.ba,m.bc,m.bl,m.da,m.dc,m.ra,m.rc,m.ia,m.ic,m.ea,m.ec⟩)
theorem aLh {m':Md}{W:qw}(hd:m'.md W)(h:eO c m m' W):mdP m'.mb=m'/\Msr W m'.mb/\(m'.size<=1048576->PmG m'.mb.1):=by
 obtain ⟨g1,g2,g3,g5,g6,g7,gs,rfl,_,_,_,_,_,_,hg,r1,r2,r3,r5,r6,r7⟩:=h;obtain ⟨hn,ht,hb,hdd,hs,hr,hi,he⟩:=hd
 have hbk:∀ k,k<(reb gs m.bl).length->(reb gs m.bl)[k]?=some (some (qR (gs.getD k 0) 0),(m.bl.getD k zB).2.2.2.length,(m.bl.getD k zB).2.1,(m.bl.getD k zB).2.2.2)/\W.cell? (qR g2 k)=some (.slice (some (qR (gs.getD k 0) 0)) (m.bl.getD k zB).2.2.2.length (m.bl.getD k zB).2.1)/\IS W (some (qR (gs.getD k 0) 0)) (m.bl.getD k zB).2.1 (m.bl.getD k zB).2.1 (m.bl.getD k zB).2.2.2:=fun k hk=>by
  have hk':k<m.bl.length:=by rw [mW] at hk;exact hk
  obtain ⟨b1,b2,b3,b4,b5⟩:=hb;dsimp only at b1 b3 b4;have q:=b4 k (by omega);obtain ⟨b,off,e,hc⟩:=b3 (by omega);cases e
  have c:=hc k (by omega);rw [gY _ _ _ hk'] at q c;rw [Nat.zero_add] at c;rw [q.1];refine ⟨?_,c,q⟩;have:=gY gs m.bl k hk';rw [xB,xN hk] at this;rw [xN hk];exact congrArg some this
 refine ⟨?_,⟨nV (aE2 ht) _,fun k hk=>?_,rfl,nV (aPm hdd) _,nV (aE2 hr) _,nV (aOp hi) _,nV (aPh he) _⟩,fun hz=>?_⟩
 .simp only [mdP,Md.mb,Md.pm];rw [ht.1,hb.1,hdd.1,hr.1,hi.1,he.1]
 .obtain ⟨q1,q2,q3⟩:=hbk k hk;exact ⟨g2,_,_,_,rfl,q1,q2,nV (aE2 q3) _⟩
 .unfold Md.size cS at hz;dsimp only at hz;have e1:=ht.1;have e2:=hb.1;have e3:=hdd.1;have e4:=hr.1;have e5:=hi.1;have e6:=he.1;dsimp only at e1 e2 e3 e4 e5 e6;refine ⟨hn,⟨by show m.tz.length<=_;omega,ht.2.2.1⟩,⟨by show (List.map _ (reb gs m.bl)).length<=_;rw [xH];omega,fun l hl=>?_⟩,⟨by show m.dz.length<=_;omega,hdd.2.2.1⟩,hs,⟨by show m.rz.length<=_;omega,hr.2.2.1⟩,⟨by show m.ss.length<=_;omega,hi.2.2.1⟩,⟨by show m.es.length<=_;omega,he.2.2.1⟩⟩;obtain ⟨B,hB,rfl⟩:=List.mem_map.1 (show l∈(reb gs m.bl).map (fun B=>B.2.2.2) from hl);obtain ⟨k,hk,rfl⟩:=List.mem_iff_getElem.1 hB;have q:IS W ((reb gs m.bl).getD k zB).1 ((reb gs m.bl).getD k zB).2.1 ((reb gs m.bl).getD k zB).2.2.1 ((reb gs m.bl).getD k zB).2.2.2:=hb.2.2.2.1 k (by show k<m.bn;omega);rw [xB,xN hk,Option.getD_some] at q;have u:=zC (fun j=>((reb gs m.bl).getD j zB).2.1) m.bn k (by omega);rw [xB,xN hk,Option.getD_some] at u;exact ⟨by have:=q.1;omega,q.2.2.1⟩
theorem MnR.mns {w W:qw}(h:MnR W base M g0 g1 g2 g3 g4 g5 g6 ms')(t:MnT w M)(b:MnB M):MnS W (M.cp g0 g1 g2 g3 g4 g5 g6 ms') g0 g1 0 g2 0 g3 0 g4 0 (ms'.map Md.mb):=by
 have D:=h.mnd t b
 have key:∀ i,(hi:i<ms'.length)->mdP (ms'.getD i aK).mb=ms'.getD i aK/\Msr W (ms'.getD i aK).mb/\PmG (ms'.getD i aK).mb.1:=fun i hi=>by
  have hn:=h.n;obtain ⟨k1,k2,k3⟩:=aLh (D.m.d i (by show i<M.mn;omega)) (h.m.2.2 i hi).2;refine ⟨k1,k2,k3 ?_⟩;have e:=yU (h.m.2.2 i hi).2 (t.m.2.2.2.1 i (by omega)).b.1;have:=b.m i (by omega);show (ms'.getD i aK).size<=_;omega
 have get:∀ (i:Nat) (x:PMod×Mb),(ms'.map Md.mb)[i]?=some x->i<ms'.length/\x=(ms'.getD i aK).mb:=fun i x hx=>by
  rw [List.getElem?_map] at hx;obtain ⟨m,hm,rfl⟩:=Option.map_eq_some_iff.1 hx;obtain ⟨hi,rfl⟩:=List.getElem?_eq_some_iff.1 hm;exact ⟨hi,by simp [xB,hi]⟩
 refine ⟨⟨rfl,rfl,rfl,rfl,rfl⟩,⟨fun i x hx=>?_,fun i x hx=>?_⟩,?_,?_,D.k,D.f,D.r,D.o,aJ4 h.l,aJ4 h.h,⟨b.n,b.k,b.b,b.l,b.h⟩⟩
 .obtain ⟨hi,rfl⟩:=get i x hx;refine ⟨g0,rfl,?_⟩;rw [(key i hi).1];exact (h.m.2.2 i hi).1
 .obtain ⟨hi,rfl⟩:=get i x hx;exact (key i hi).2
 .rw [xH];exact h.n
 .rw [List.map_map];rfl
theorem dV {W W':qw}{cs:Array Value}{t:TypeId}(h:TMx W W')(k:Blk W g cs t)(hne:t≠43):Blk W' g cs t:=aF h k (fun ⟨_,kb⟩=>hne (aI k kb))
theorem MnR.tm {W W':qw}(h:MnR W base M g0 g1 g2 g3 g4 g5 g6 ms')(t:TMx W W'):MnR W' base M g0 g1 g2 g3 g4 g5 g6 ms':=by
 have at8:∀ {c o:Nat} {cur:Array Value} {q:Md},Blk W c cur 138->At8 W c o q->At8 W' c o q:=fun {c} {o} {cur} {q} kb h8=>by
  have e:∀ o,W'.cell? (qR c o)=W.cell? (qR c o):=fun o=>((dV t kb (by decide)).cell o).trans (kb.cell o).symm;unfold At8 at *;simpa only [e] using h8
 refine ⟨h.b,h.n,?_,h.x,dV t h.k (by decide),dV t h.f (by decide),dV t h.r (by decide),dV t h.o (by decide),h.l.kept t (jN h.l (by decide)),h.h.kept t (jN h.h (by decide))⟩;obtain ⟨⟨cur,hc,hs⟩,hq,hr⟩:=h.m;refine ⟨⟨cur,dV t hc (by decide),hs⟩,fun i hi=>by obtain ⟨q,h8⟩:=hq i hi;exact ⟨q,at8 hc h8⟩,fun i hi=>⟨at8 hc (hr i hi).1,?_⟩⟩;obtain ⟨p1,p2,p3,p5,p6,p7,gs,e,l1,l2,l3,l4,l5,l6,hg,r1,r2,r3,r5,r6,r7⟩:=(hr i hi).2;refine ⟨p1,p2,p3,p5,p6,p7,gs,e,l1,l2,l3,l4,l5,l6,hg,dV t r1 (by decide),?_,dV t r3 (by decide),dV t r5 (by decide),dV t r6 (by decide),?_⟩
 .obtain ⟨⟨cur2,h1,h2,h3⟩,h4,h5⟩:=r2;exact ⟨⟨cur2,dV t h1 (by decide),h2,h3⟩,fun i hi=>⟨dV t (h4 i hi).1 (by decide),(h4 i hi).2⟩,h5⟩
 .obtain ⟨⟨cur7,h1,h2⟩,h3⟩:=r7;refine ⟨⟨cur7,dV t h1 (by decide),h2⟩,fun i hi=>?_⟩;have e:∀ o,W'.cell? (qR p7 o)=W.cell? (qR p7 o):=fun o=>((dV t h1 (by decide)).cell o).trans (h1.cell o).symm;have q:=h3 i hi;unfold At3 at *;simpa only [e] using q
theorem aOe (e:aD ms'=aD M.ms):(M.cp g0 g1 g2 g3 g4 g5 g6 ms').cn=M.cn:=by
 unfold Mn.cn Mn.cp;dsimp only;rw [e]
theorem aBg (e:aD ms'=aD M.ms)(m b t:Int):oS (M.cp g0 g1 g2 g3 g4 g5 g6 ms') m b t=oS M m b t:=by
 have q:(MOk (M.cp g0 g1 g2 g3 g4 g5 g6 ms')/\(M.cp g0 g1 g2 g3 g4 g5 g6 ms').tn<1000000000/\tgk (aD (M.cp g0 g1 g2 g3 g4 g5 g6 ms').ms) m b t)=(MOk M/\M.tn<1000000000/\tgk (aD M.ms) m b t):=by
  rw [show aD (M.cp g0 g1 g2 g3 g4 g5 g6 ms').ms=aD M.ms from e,propext (aO9 e)];rfl
 exact xJ.2 (entB_iff.trans ((iff_of_eq q).trans entB_iff.symm))
theorem rJ (e:aD ms'=aD M.ms)(m b t:Int):lM (M.cp g0 g1 g2 g3 g4 g5 g6 ms') m b t=lM M m b t:=by
 have eL:(M.cp g0 g1 g2 g3 g4 g5 g6 ms').L=M.L:=by unfold Mn.L;show lkL (aD ms') M.cs M.cw M.ck M.cd=_;rw [e]
 unfold lM;rw [aBg e,aOe e,eL]
def RX (C:Cn)(lo:Nat)(N:Mn)(W:qw):Prop:=∃ base mid L β,MxO W base mid C N L β/\lo<=base
theorem RX.tm {W W':qw}(h:RX C lo N W)(t:TMx W W'):RX C lo N W':=by
 obtain ⟨base,mid,L,β,h,hl⟩:=h;exact ⟨base,mid,L,β,h.tm t,hl⟩
theorem RX.bw {W W':qw}(h:RX C lo N W)(hb:qY W W'):RX C lo N W':=h.tm (cR hb)
theorem RX.turn {W W':qw}{S:Nat->Prop}(h:RX C lo N W)(t:Turn S W W')(hS:∀ j,S j->j<lo):RX C lo N W':=by
 obtain ⟨base,mid,L,β,h,hl⟩:=h;exact ⟨base,mid,L,β,h.turn t (fun j hj=>Nat.lt_of_lt_of_le (hS j hj) hl),hl⟩
theorem RX.mnd {W:qw}(h:RX C lo N W)(hn:C.ps.length<=1048576):MnD W N:=by
 obtain ⟨base,mid,L,β,h,hl⟩:=h;refine h.mnd ?_;have h1:=h.len;have h2:=congrArg List.length h.e;rw [xH] at h2;omega
theorem RX.sam {lo':Nat}{N':Mn}{W W':qw}(h:RX C lo N W)(h':RX C lo' N' W'):Sam N N':=by
 obtain ⟨_,_,_,_,h,_⟩:=h;obtain ⟨_,_,_,_,h',_⟩:=h';exact h.sam h'
structure SlG (n ks:Nat)(slot:Nat->Nat)(sl:List Nat)(size:Nat):Prop where
 m:∀ j,j<n->j≠ks->slot j∈sl
 i:∀ i,i<n->∀ j,j<n->i≠ks->j≠ks->i≠j->slot j≠slot i
 s:∀ j,j<n->j≠ks->slot j<size
theorem aD1 (n ks:Nat)(slot:Nat->Nat)(sl:List Nat)(size:Nat)(h:((List.range n).all fun i=>i==ks || (sl.contains (slot i)&&decide (slot i<size)&&(List.range n).all fun j=>j==ks || i==j || slot j !=slot i))=true):SlG n ks slot sl size:=by
 have key:∀ i,i<n->i≠ks->slot i∈sl/\slot i<size/\∀ j,j<n->j≠ks->i≠j->slot j≠slot i:=fun i hi hk=>by
  have:=List.all_eq_true.1 h i (List.mem_range.2 hi);simp only [Bool.or_eq_true,beq_iff_eq,hk,false_or,Bool.and_eq_true,decide_eq_true_eq] at this;obtain ⟨⟨h1,h2⟩,h3⟩:=this;refine ⟨by simpa using h1,h2,fun j hj jk hij=>?_⟩;have:=List.all_eq_true.1 h3 j (List.mem_range.2 hj);simpa [jk,hij] using this
 exact ⟨fun j hj hk=>(key j hj hk).1,fun i hi j hj ik jk hij=>(key i hi ik).2.2 j hj jk hij,fun j hj hk=>(key j hj hk).2.1⟩
structure Stb (P:Nat->Value->World->Prop)(R:Mn->World->Prop):Prop where
 p:∀ {j:Nat} {v:Value} {W W':qw},P j v W->TMx W W'->P j v W'
 r:∀ {M:Mn} {W W':qw},R M W->TMx W W'->R M W'
structure IG (n kb ks:Nat)(P:Nat->Value->World->Prop)(R:Mn->World->Prop)(slot:Nat->Nat)(sl:List Nat)(W0:qw)(A:Act)(listed:Array Bool)(a:Act)(W:qw):Prop where
 sz:listed.size=n
 fs:a.tmps.size=A.tmps.size
 fd:a.defers=A.defers
 fo:∀ t,t ∉ sl->a.tmps.getD t undef=A.tmps.getD t undef
 b:qY W0 W
 p:∀ j,j<n->j≠kb->j≠ks->listed.getD j false=true->P j (a.tmps.getD (slot j) undef) W
 c:listed.getD ks false=true->listed.getD kb false=true
 bx:listed.getD kb false=true->∃ gb,a.tmps.getD (slot kb) undef=.pointer (qP gb)/\W0.heap.size<=gb/\(listed.getD ks false=false->Blk W gb z15 43)/\(listed.getD ks false=true->∃ M,Blk W gb (qA M) 43/\R M W)
section
variable {n kb ks:Nat}{P:Nat->Value->World->Prop}{R:Mn->World->Prop}{slot:Nat->Nat}{sl:List Nat}{W0 W:qw}{A a:Act}{listed:Array Bool}
theorem IG.next (h:IG n kb ks P R slot sl W0 A listed a W)(s:Stb P R)(q:SlG n ks slot sl A.tmps.size)(hk:kb<n/\kb≠ks){j:Nat}(hj:j<n)(h9:j≠kb)(h10:j≠ks)(v:Value)(W':qw)(hb:qY W W')(hp:P j v W'):IG n kb ks P R slot sl W0 A (listed.setIfInBounds j true) (a.put (some (slot j)) v) W':=by
 refine ⟨by simp [h.sz],put_sz.trans h.fs,put_df.trans h.fd,fun t ht=>(aEb (fun e=>ht (by rw [<- e];exact q.m j hj h10))).trans (h.fo t ht),h.b.trans (hb.mono h.b.size),fun i hi i9 i10 hl=>?_,fun e=>?_,fun e=>?_⟩
 .by_cases e:i=j
  .subst e;rw [aO0 (by rw [h.fs];exact q.s i hj h10)];exact hp
  .rw [aEb (q.i i hi j hj i10 h10 e)];exact s.p (h.p i hi i9 i10 ((aPe hl).resolve_left e)) (cR hb)
 .rw [getD_set_ne false (by omega)] at e ⊢;exact h.c e
 .rw [getD_set_ne false (by omega)] at e;obtain ⟨gb,e1,e2,e3,e4⟩:=h.bx e;refine ⟨gb,(aEb (q.i kb hk.1 j hj hk.2 h10 (by omega))).trans e1,e2,fun f=>?_,fun f=>?_⟩
  .rw [getD_set_ne false (by omega)] at f;exact (e3 f).bw hb
  .rw [getD_set_ne false (by omega)] at f;obtain ⟨M,k1,o1⟩:=e4 f;exact ⟨M,k1.bw hb,s.r o1 (cR hb)⟩
theorem IG.box (h:IG n kb ks P R slot sl W0 A listed a W)(s:Stb P R)(q:SlG n ks slot sl A.tmps.size)(hk:kb<n/\kb≠ks)(hl:listed.getD kb true=false):IG n kb ks P R slot sl W0 A (listed.setIfInBounds kb true) (a.put (some (slot kb)) (.pointer (qP W.heap.size))) (W.alloc (.cells z15 43)):=by
 have hb:qY W (W.alloc (.cells z15 43)):=bal;rw [aMy (by rw [h.sz];exact hk.1)] at hl
 have h10:listed.getD ks false=false:=by
  cases e:listed.getD ks false with
  | false=>rfl
  | true=>have:=h.c e;rw [hl] at this;cases this
 refine ⟨by simp [h.sz],put_sz.trans h.fs,put_df.trans h.fd,fun t ht=>(aEb (fun e=>ht (by rw [<- e];exact q.m kb hk.1 hk.2))).trans (h.fo t ht),h.b.trans (hb.mono h.b.size),fun i hi i9 i10 hl2=>?_,fun e=>?_,fun _=>?_⟩
 .rw [aEb (q.i i hi kb hk.1 i10 hk.2 i9)];exact s.p (h.p i hi i9 i10 ((aPe hl2).resolve_left i9)) (cR hb)
 .rw [getD_set_ne false hk.2,h10] at e;cases e
 .refine ⟨W.heap.size,aO0 (by rw [h.fs];exact q.s kb hk.1 hk.2),h.b.size,fun _=>Blk.new _ _ _,fun f=>?_⟩;rw [getD_set_ne false hk.2,h10] at f;cases f
theorem IG.store (h:IG n kb ks P R slot sl W0 A listed a W)(s:Stb P R)(hk:ks<n/\kb≠ks)(hl:listed.getD ks true=false)(h9:listed.getD kb false=true)(o:R M W)(e1:a.tmps.getD (slot kb) undef=.pointer (qP gb))(e2:W0.heap.size<=gb)(k:Blk W gb z15 43):IG n kb ks P R slot sl W0 A (listed.setIfInBounds ks true) (a.put none undef) (dP W gb (qS M.ma M.mn M.mc) (qI M.cs) (qI M.cw) (qI M.ck) (qI M.cd) (qI M.pc) (qS M.ka M.kn M.kc) (qS M.fa M.fn M.fc) (qS M.ra M.rn M.rc) (qS M.oa M.on M.oc) (qI M.md) (qI M.bk) (qS M.la M.ln M.lc) (qS M.ha M.hn M.hc) (qI M.tn)):=by
 have T:=aS W gb (qS M.ma M.mn M.mc) (qI M.cs) (qI M.cw) (qI M.ck) (qI M.cd) (qI M.pc) (qS M.ka M.kn M.kc) (qS M.fa M.fn M.fc) (qS M.ra M.rn M.rc) (qS M.oa M.on M.oc) (qI M.md) (qI M.bk) (qS M.la M.ln M.lc) (qS M.ha M.hn M.hc) (qI M.tn);have tm:TMx W (dP W gb (qS M.ma M.mn M.mc) (qI M.cs) (qI M.cw) (qI M.ck) (qI M.cd) (qI M.pc) (qS M.ka M.kn M.kc) (qS M.fa M.fn M.fc) (qS M.ra M.rn M.rc) (qS M.oa M.on M.oc) (qI M.md) (qI M.bk) (qS M.la M.ln M.lc) (qS M.ha M.hn M.hc) (qI M.tn)):=T.mono (fun j hj=>by subst hj;exact ⟨_,k⟩);have e10:(listed.setIfInBounds ks true).getD ks false=true:=by simp [h.sz,hk.1]
 refine ⟨by simp [h.sz],h.fs,h.fd,h.fo,aG h.b T (fun j hj=>by omega) h.b.size,fun i hi i9 i10 hl2=>s.p (h.p i hi i9 i10 ((aPe hl2).resolve_left i10)) tm,fun _=>by rw [getD_set_ne false (Ne.symm hk.2)];exact h9,fun _=>⟨gb,e1,e2,fun f=>?_,fun _=>⟨M,gI k _ _ _ _ _ _ _ _ _ _ _ _ _ _ _ ,s.r o tm⟩⟩⟩;rw [e10] at f;cases f
theorem IG.start (hA:A=A):IG n kb ks P R slot sl W0 A (Array.replicate n false) A W0.drew:=by
 have nf:∀ j,¬ (Array.replicate n false).getD j false=true:=fun j hl=>by
  simp only [xK,Array.getElem?_replicate] at hl;split at hl<;>simp at hl
 exact ⟨by simp,rfl,rfl,fun _ _=>rfl,brf.drew,fun j hj _ _ hl=>absurd hl (nf j),fun f=>absurd f (nf _),fun f=>absurd f (nf _)⟩
end
theorem zA (f g:Nat->Nat):∀ n,(∀ j,j<n->f j<=g j)->upS f n<=upS g n
 | 0,_=>aN
 | n+1,h=>by
   have h1:=zA f g n (fun j hj=>h j (by omega));have h2:=h n (by omega);unfold upS;omega
theorem aF0 (f:Nat->Nat):∀ n,upS (fun j=>2+3*f j) n=2*n+3*upS f n
 | 0=>rfl
 | n+1=>by
   have:=aF0 f n;unfold upS;omega
theorem aOm {w:qw}(h:m.mt w):szc m.pm<=2+3*m.size:=by
 have e1:=h.t.1;have e2:=h.b.1;have e3:=h.d.1;have e4:=h.r.1;have e5:=h.i.1;have e6:=h.e.1
 have eb:(m.pm.bl.map List.length).sum<=upS (fun j=>(m.bl.getD j zB).2.1) m.bn:=by
  have q:=yY (fun B:Bk=>B.2.2.2.length) zB m.bl;have:(m.pm.bl.map List.length).sum=(m.bl.map fun B=>B.2.2.2.length).sum:=by unfold Md.pm;simp only [List.map_map];rfl
  rw [this,<- q,e2];exact zA _ _ _ (fun j hj=>by rw [(h.b.2.2.2.1 j hj).1];exact aN)
 unfold szc Md.size cS;show 2+m.tz.length+_+m.dz.length+m.rz.length+m.ss.length+3*m.es.length<=_;omega
theorem aPc {w:qw}(t:MnT w M)(b:MnB M):mkn M.cn<=4194305:=by
 have l:=t.m.1
 have s1:((aD M.ms).map szc).sum<=2*M.mn+3*upS (fun j=>(M.ms.getD j aK).size) M.mn:=by
  have q:=yY (fun m:Md=>szc m.pm) aK M.ms;have:((aD M.ms).map szc).sum=(M.ms.map fun m=>szc m.pm).sum:=by unfold aD;rw [List.map_map];rfl
  rw [this,<- q,l,<- aF0];exact zA _ _ _ (fun j hj=>aOm (t.m.2.2.2.1 j hj))
 have bs:=b.s;have k1:=t.k.1;have k2:=t.f.1;have k3:=t.r.1;have k4:=t.o.1;have k5:=t.l.1;have k6:=t.h.1;unfold mkn Mn.cn;dsimp only;omega
theorem aLd {w:qw}(d:MnD w M)(m b t:Int):mkn (lM M m b t)=mkn M.cn/\(lM M m b t).ps=aD M.ms:=by
 unfold lM;by_cases c:oS M m b t=true
 .rw [if_pos c];have ok:MOk M/\M.tn<1000000000/\tgk (aD M.ms) m b t:=entB_iff.1 c;have hv:=ok.1.cv d;unfold iL;by_cases K:M.cn.lz.length≠0/\b≠-1
  .rw [if_pos K];have hs:=hv.slot (lX (xs:=M.cn.lz) m b K.1);refine ⟨?_,rfl⟩;unfold mkn;dsimp only;rw [List.length_set,List.length_set,lE _ _ _ ?_]
   have hb:0<=b:=by
    have hp:=ok.2.2.1;unfold pcq at hp;split at hp
    .split at hp
     .exact absurd (by assumption) K.2
     .split at hp
      .omega
      .exact absurd hp (by decide)
    .exact absurd hp (by decide)
   have hl:(bkb M.cn.ps M.cn.cw m b).length=slz M.cn.cw:=by unfold bkb;rw [eZ,List.length_replicate]
   rw [hl];exact hs.2.1
  .rw [if_neg K];refine ⟨?_,rfl⟩;unfold mkn;dsimp only;rw [List.length_set]
 .rw [if_neg c];exact ⟨rfl,rfl⟩
def iA (ops:Array Oper)(k:Nat)(d:Option Tmp)(op:Op)(es:List Nat):Prop:=∃ (ty:TypeId) (p:String) (af:Array Edge),ops[k]?=some { dst:=d,op:=op,type:=ty,pos:=p,after:=af,guard:=none }/\∀ j∈es,(⟨j,.data⟩:Edge)∈af
theorem aNu {W:qw}{ty:TypeId}{af:Array _}{gd:Option _}(kb:Blk W gb z15 43)(h:a.tmps[k]?.getD undef=.pointer (qP gb))(h2:a.tmps[k2]?.getD undef=.agg (qA N)):(execOp a.eval { dst:=d,op:=Op.store 43 (Operand.tmp k) (Operand.tmp k2),type:=ty,pos:=p,after:=af,guard:=gd }).run prog W=.ok .skip (dP W gb (qS N.ma N.mn N.mc) (qI N.cs) (qI N.cw) (qI N.ck) (qI N.cd) (qI N.pc) (qS N.ka N.kn N.kc) (qS N.fa N.fn N.fc) (qS N.ra N.rn N.rc) (qS N.oa N.on N.oc) (qI N.md) (qI N.bk) (qS N.la N.ln N.lc) (qS N.ha N.hn N.hc) (qI N.tn)):=by
 unfold z15 at kb;obtain ⟨q0,q1,q2,q3,q4,q5,q6,q7,q8,q9,q10,q11,q12,q13,q14⟩:=kb.mc;have f0:=kb.frozen 0;have f1:=kb.frozen 1;have f2:=kb.frozen 2;have f3:=kb.frozen 3;have f4:=kb.frozen 4;have f5:=kb.frozen 5;have f6:=kb.frozen 6;have f7:=kb.frozen 7;have f8:=kb.frozen 8;have f9:=kb.frozen 9;have f10:=kb.frozen 10;have f11:=kb.frozen 11;have f12:=kb.frozen 12;have f13:=kb.frozen 13;have f14:=kb.frozen 14;unfold dP;go_simp
def PEa (M:Mn)(m b t:Int)(C:Cn)(x:Value)(lo:Nat):Nat->Value->World->Prop
 | 0,v,_=>v=.agg (qA M)
 | 1,v,W=>∃ base g0 g1 g2 g3 g4 g5 g6 ms',v=.agg (qK M g0 g1 g2 g3 g4 g5 g6)/\MnR W base M g0 g1 g2 g3 g4 g5 g6 ms'
 | 2,v,_=>v=.agg (qT m b t)
 | 3,v,_=>v=.agg (qT m b t)
 | 4,v,W=>∃ N:Mn,v=.tuple #[.agg (qA N),x]/\RX C lo N W
 | 5,v,W=>∃ N:Mn,v=.tuple #[.agg (qA N),x]/\RX C lo N W
 | 6,v,W=>∃ N:Mn,v=.agg (qA N)/\RX C lo N W
 | 7,v,_=>v=x
 | 10,v,_=>v=x
 | _,_,_=>True
theorem jW (M:Mn)(m b t:Int)(C:Cn)(x:Value)(lo:Nat):Stb (PEa M m b t C x lo) (RX C lo):=⟨fun {j} {v} {W} {W'} h q=>by
 match j with
 | 0|2|3|7|8|9|10=>exact h
 | 1=>obtain ⟨base,g0,g1,g2,g3,g4,g5,g6,ms',e,r⟩:=h;exact ⟨base,g0,g1,g2,g3,g4,g5,g6,ms',e,r.tm q⟩
 | 4=>obtain ⟨N,e,r⟩:=h;exact ⟨N,e,r.tm q⟩
 | 5=>obtain ⟨N,e,r⟩:=h;exact ⟨N,e,r.tm q⟩
 | 6=>obtain ⟨N,e,r⟩:=h;exact ⟨N,e,r.tm q⟩
 | _+11=>exact h,fun h q=>h.tm q⟩
def PEb (u:Value)(m b t:Int)(C:Cn)(x:Value)(lo:Nat):Nat->Value->World->Prop
 | 0,v,_=>v=u
 | 1,v,_=>v=.agg (qT m b t)
 | 2,v,_=>v=.agg (qT m b t)
 | 3,v,W=>∃ N:Mn,v=.tuple #[.agg (qA N),x]/\RX C lo N W
 | 4,v,W=>∃ N:Mn,v=.tuple #[.agg (qA N),x]/\RX C lo N W
 | 5,v,W=>∃ N:Mn,v=.agg (qA N)/\RX C lo N W
 | 6,v,_=>v=x
 | 9,v,_=>v=x
 | _,_,_=>True
theorem lR (u:Value)(m b t:Int)(C:Cn)(x:Value)(lo:Nat):Stb (PEb u m b t C x lo) (RX C lo):=⟨fun {j} {v} {W} {W'} h q=>by
 match j with
 | 0|1|2|6|7|8|9=>exact h
 | 3=>obtain ⟨N,e,r⟩:=h;exact ⟨N,e,r.tm q⟩
 | 4=>obtain ⟨N,e,r⟩:=h;exact ⟨N,e,r.tm q⟩
 | 5=>obtain ⟨N,e,r⟩:=h;exact ⟨N,e,r.tm q⟩
 | _+10=>exact h,fun h q=>h.tm q⟩
theorem aPx {W0:qw}{m:Int}(slot:Nat->Nat)(sl:List Nat)(q:SlG 11 9 slot sl A.tmps.size)(hs:ops.size=11)(hF:∀ (args:Array Value) (X:qw),(callFunc F args).run prog X=.ok (.enter F args) X)(na:2 ∉ sl/\3 ∉ sl)(ha:A.tmps.getD 2 undef=.pointer (qP ga))(ht:A.tmps.getD 3 undef=.pointer (qP gt))(o0:iA ops 0 (some (slot 0)) (.load 34 (.tmp 2)) [])(o1:iA ops 1 (some (slot 1)) (.call { callee:=.value (.func 9),args:=#[.tmp (slot 0)],argTypes:=#[34] }) [0])(o2:iA ops 2 (some (slot 2)) (.load 56 (.tmp 3)) [])(o3:iA ops 3 (some (slot 3)) (.call { callee:=.value (.func 20),args:=#[.tmp (slot 2)],argTypes:=#[56] }) [2])(o4:iA ops 4 (some (slot 4)) (.call { callee:=.value (.func F),args:=#[.tmp (slot 1),.tmp (slot 3)],argTypes:=#[43,58] }) [1,3])(o5:iA ops 5 (some (slot 5)) (.move (.tmp (slot 4))) [4])(o6:iA ops 6 (some (slot 6)) (.extract (.tmp (slot 5)) 0) [5])(o7:iA ops 7 (some (slot 7)) (.extract (.tmp (slot 5)) 1) [5])(o8:iA ops 8 (some (slot 8)) (.alloc 43) [])(o9:iA ops 9 none (.store 43 (.tmp (slot 8)) (.tmp (slot 6))) [8,6])(o10:iA ops 10 (some (slot 10)) (.assign (.tmp (slot 7))) [7])(hall:((List.range ops.size).all fun i=>match ops[i]? with|some o=>o.after.all (fun e=>!Region.binds .any e || decide (e.on<i))|none=>true)=true)(HK:∀ X,qY W0 X->Blk X ga (qA M) 34/\(X.cell? (qR gt 0)=some (qI m)/\X.cell? (qR gt 1)=some (qI b)/\X.cell? (qR gt 2)=some (qI t)))(HTO:∀ X,qY W0 X->qC 9 #[.agg (qA M)] X (fun e w'=>∃ g0 g1 g2 g3 g4 g5 g6 ms',e=.returned (.agg (qK M g0 g1 g2 g3 g4 g5 g6))/\MnR w' X.heap.size M g0 g1 g2 g3 g4 g5 g6 ms'/\qY X w'))(HE:∀ (X:qw) (bs g0 g1 g2 g3 g4 g5 g6:Nat) (ms':List Md),MnR X bs M g0 g1 g2 g3 g4 g5 g6 ms'->lo<=X.heap.size->qC F #[.agg (qK M g0 g1 g2 g3 g4 g5 g6),.agg (qT m b t)] X (fun e w'=>qY X w'/\∃ N:Mn,e=.returned (.tuple #[.agg (qA N),x])/\RX C lo N w'))(hl:lo<=W0.heap.size)(hend:∀ (W:qw) (N:Mn) (gb:Nat) (y:Nat->Value),qY W0 W/\W0.heap.size<=gb/\Blk W gb (qA N) 43/\RX C lo N W->y (slot 8)=.pointer (qP gb)->y (slot 10)=x->Q .normal (sB A y sl) W):(Code.region id ops true).wp prog Q A W0:=by
 obtain ⟨_,_,_,o0,z0⟩:=o0;obtain ⟨_,_,_,o1,z1⟩:=o1;obtain ⟨_,_,_,o2,z2⟩:=o2;obtain ⟨_,_,_,o3,z3⟩:=o3;obtain ⟨_,_,_,o4,z4⟩:=o4;obtain ⟨_,_,_,o5,z5⟩:=o5;obtain ⟨_,_,_,o6,z6⟩:=o6;obtain ⟨_,_,_,o7,z7⟩:=o7;obtain ⟨_,_,_,o8,z8⟩:=o8;obtain ⟨_,_,_,o9,z9⟩:=o9;obtain ⟨_,_,_,o10,z10⟩:=o10;refine jT (by kernel_rfl) (fun A listed f W=>IG 11 8 9 (PEa M m b t C x lo) (RX C lo) slot sl W0 A listed f W) (by rw [hs];exact IG.start rfl) ?_ ?_
 .intro listed f W i K hI hi hK;have hlt:i<11:=by obtain ⟨_,o,ho,_⟩:=mem_ready.1 hi;have:=(Array.getElem?_eq_some_iff.1 ho).1;omega
  have hb:=(mem_ready.1 hi).1;have hz:=xM hl hI.b.size;rcases (show i=0\/i=1\/i=2\/i=3\/i=4\/i=5\/i=6\/i=7\/i=8\/i=9\/i=10 by omega) with rfl|rfl|rfl|rfl|rfl|rfl|rfl|rfl|rfl|rfl|rfl
  .have y:=(hI.fo 2 na.1).trans ha;simp only [xK] at y;exact mP o0 rfl (w':=W) (aN9 (HK W hI.b).1 y) (hK _ _ (hI.next (jW M m b t C x lo) q (by decide) (j:=0) (by omega) (by omega) (by omega) _ W brf rfl))
  .have t0:=bQ hi o1 ⟨0,.data⟩ (z1 0 (by simp)) rfl;have v0:=hI.p 0 (by omega) (by omega) (by omega) t0;have y0:=show f.tmps.getD (slot 0) undef=.agg (qA M) from v0;simp only [xK] at y0;refine aIv o1 rfl (f:=9) (args:=#[.agg (qA M)]) (w':=W) (by go_simp) (HTO W hI.b) ?_;rintro e W' ⟨g0,g1,g2,g3,g4,g5,g6,ms',rfl,r1,hb1⟩;exact ⟨_,rfl,(hK _ _ (hI.next (jW M m b t C x lo) q (by decide) (j:=1) (by omega) (by omega) (by omega) _ _ hb1 ⟨_,g0,g1,g2,g3,g4,g5,g6,ms',rfl,r1⟩))⟩
  .obtain ⟨z0,z1,z2⟩:=(HK W hI.b).2;have y:=(hI.fo 3 na.2).trans ht;simp only [xK] at y;refine mP o2 rfl (w':=W) (v:=.agg (qT m b t)) ?_ (hK _ _ (hI.next (jW M m b t C x lo) q (by decide) (j:=2) (by omega) (by omega) (by omega) _ W brf rfl));go_simp
  .have t2:=bQ hi o3 ⟨2,.data⟩ (z3 2 (by simp)) rfl;have v2:=hI.p 2 (by omega) (by omega) (by omega) t2;have y2:=show f.tmps.getD (slot 2) undef=.agg (qT m b t) from v2;simp only [xK] at y2;refine aIv o3 rfl (f:=20) (args:=#[.agg (qT m b t)]) (w':=W) (by go_simp) (mR m b t W) ?_;rintro e W' ⟨rfl,hb1⟩;exact ⟨_,rfl,(hK _ _ (hI.next (jW M m b t C x lo) q (by decide) (j:=3) (by omega) (by omega) (by omega) _ _ hb1 rfl))⟩
  .have t1:=bQ hi o4 ⟨1,.data⟩ (z4 1 (by simp)) rfl;have v1:=hI.p 1 (by omega) (by omega) (by omega) t1;have t3:=bQ hi o4 ⟨3,.data⟩ (z4 3 (by simp)) rfl;have v3:=hI.p 3 (by omega) (by omega) (by omega) t3;obtain ⟨bs,g0,g1,g2,g3,g4,g5,g6,ms',y1,r1⟩:=v1;have y1:=show f.tmps.getD (slot 1) undef=_ from y1;simp only [xK] at y1;have y3:=show f.tmps.getD (slot 3) undef=.agg (qT m b t) from v3;simp only [xK] at y3;refine aIv o4 rfl (f:=F) (args:=#[.agg (qK M g0 g1 g2 g3 g4 g5 g6),.agg (qT m b t)]) (w':=W) (by go_simp) (HE W bs g0 g1 g2 g3 g4 g5 g6 ms' r1 hz) ?_;rintro e W' ⟨hb1,N,rfl,rx⟩;exact ⟨_,rfl,(hK _ _ (hI.next (jW M m b t C x lo) q (by decide) (j:=4) (by omega) (by omega) (by omega) _ _ hb1 ⟨N,rfl,rx⟩))⟩
  .have t4:=bQ hi o5 ⟨4,.data⟩ (z5 4 (by simp)) rfl;have v4:=hI.p 4 (by omega) (by omega) (by omega) t4;obtain ⟨N,y,rx⟩:=v4;have y:=show f.tmps.getD (slot 4) undef=_ from y;simp only [xK] at y;refine mP o5 rfl (w':=W) (v:=.tuple #[.agg (qA N),x]) ?_ (hK _ _ (hI.next (jW M m b t C x lo) q (by decide) (j:=5) (by omega) (by omega) (by omega) _ W brf ⟨N,rfl,rx⟩));go_simp
  .have t5:=bQ hi o6 ⟨5,.data⟩ (z6 5 (by simp)) rfl;have v5:=hI.p 5 (by omega) (by omega) (by omega) t5;obtain ⟨N,y,rx⟩:=v5;have y:=show f.tmps.getD (slot 5) undef=_ from y;simp only [xK] at y;refine mP o6 rfl (w':=W) (v:=.agg (qA N)) ?_ (hK _ _ (hI.next (jW M m b t C x lo) q (by decide) (j:=6) (by omega) (by omega) (by omega) _ W brf ⟨N,rfl,rx⟩));go_simp
  .have t5:=bQ hi o7 ⟨5,.data⟩ (z7 5 (by simp)) rfl;have v5:=hI.p 5 (by omega) (by omega) (by omega) t5;obtain ⟨N,y,rx⟩:=v5;have y:=show f.tmps.getD (slot 5) undef=_ from y;simp only [xK] at y;refine mP o7 rfl (w':=W) (v:=x) ?_ (hK _ _ (hI.next (jW M m b t C x lo) q (by decide) (j:=7) (by omega) (by omega) (by omega) _ W brf rfl));go_simp
  .refine mP o8 rfl (w':=W.alloc (.cells z15 43)) (v:=.pointer (qP W.heap.size)) ?_ (hK _ _ (hI.box (jW M m b t C x lo) q (by decide) hb));unfold z15;go_simp
  .have t8:=bQ hi o9 ⟨8,.data⟩ (z9 8 (by simp)) rfl;have t6:=bQ hi o9 ⟨6,.data⟩ (z9 6 (by simp)) rfl;have v6:=hI.p 6 (by omega) (by omega) (by omega) t6;obtain ⟨N,y6,rx⟩:=v6;have y6:=show f.tmps.getD (slot 6) undef=_ from y6;obtain ⟨gb,y9,e2,e3,_⟩:=hI.bx t8;have kb:=e3 ((aMy (by rw [hI.sz];omega) true).symm.trans hb);refine aPs o9 rfl (w':=dP W gb (qS N.ma N.mn N.mc) (qI N.cs) (qI N.cw) (qI N.ck) (qI N.cd) (qI N.pc) (qS N.ka N.kn N.kc) (qS N.fa N.fn N.fc) (qS N.ra N.rn N.rc) (qS N.oa N.on N.oc) (qI N.md) (qI N.bk) (qS N.la N.ln N.lc) (qS N.ha N.hn N.hc) (qI N.tn)) ?_ (hK _ _ (hI.store (jW M m b t C x lo) (by decide) hb t8 rx y9 e2 kb));simp only [xK] at y6 y9;exact aNu kb y9 y6
  .have t7:=bQ hi o10 ⟨7,.data⟩ (z10 7 (by simp)) rfl;have v7:=hI.p 7 (by omega) (by omega) (by omega) t7;have y7:=show f.tmps.getD (slot 7) undef=x from v7;simp only [xK] at y7;refine mP o10 rfl (w':=W) (v:=x) ?_ (hK _ _ (hI.next (jW M m b t C x lo) q (by decide) (j:=10) (by omega) (by omega) (by omega) _ W brf rfl));go_simp
 intro listed f W hI hr;have hal:=aG3 hr hall (hI.sz.trans hs.symm);rw [hs] at hal;obtain ⟨gb,e1,e2,_,e4⟩:=hI.bx (hal 8 (by omega));obtain ⟨N,kb,O⟩:=e4 (hal 9 (by omega));have xq:=hI.p 10 (by omega) (by omega) (by omega) (hal 10 (by omega));rw [aGa hI.fd hI.fs hI.fo];exact hend W N gb _ ⟨hI.b,e2,kb,O⟩ e1 xq
theorem aQk {W0:qw}{m:Int}(slot:Nat->Nat)(sl:List Nat)(q:SlG 10 8 slot sl A.tmps.size)(hs:ops.size=10)(hF:∀ (args:Array Value) (X:qw),(callFunc F args).run prog X=.ok (.enter F args) X)(na:8 ∉ sl/\3 ∉ sl)(ha:A.tmps.getD 8 undef=.pointer (qP ga))(ht:A.tmps.getD 3 undef=.pointer (qP gt))(o0:iA ops 0 (some (slot 0)) (.load 43 (.tmp 8)) [])(o1:iA ops 1 (some (slot 1)) (.load 56 (.tmp 3)) [])(o2:iA ops 2 (some (slot 2)) (.call { callee:=.value (.func 20),args:=#[.tmp (slot 1)],argTypes:=#[56] }) [1])(o3:iA ops 3 (some (slot 3)) (.call { callee:=.value (.func F),args:=#[.tmp (slot 0),.tmp (slot 2)],argTypes:=#[43,58] }) [0,2])(o4:iA ops 4 (some (slot 4)) (.move (.tmp (slot 3))) [3])(o5:iA ops 5 (some (slot 5)) (.extract (.tmp (slot 4)) 0) [4])(o6:iA ops 6 (some (slot 6)) (.extract (.tmp (slot 4)) 1) [4])(o7:iA ops 7 (some (slot 7)) (.alloc 43) [])(o8:iA ops 8 none (.store 43 (.tmp (slot 7)) (.tmp (slot 5))) [7,5])(o9:iA ops 9 (some (slot 9)) (.assign (.tmp (slot 6))) [6])(hall:((List.range ops.size).all fun i=>match ops[i]? with|some o=>o.after.all (fun e=>!Region.binds .any e || decide (e.on<i))|none=>true)=true)(HK:∀ X,qY W0 X->Blk X ga (qK M g0 g1 g2 g3 g4 g5 g6) 43/\(X.cell? (qR gt 0)=some (qI m)/\X.cell? (qR gt 1)=some (qI b)/\X.cell? (qR gt 2)=some (qI t)))(HE:∀ X,qY W0 X->lo<=X.heap.size->qC F #[.agg (qK M g0 g1 g2 g3 g4 g5 g6),.agg (qT m b t)] X (fun e w'=>qY X w'/\∃ N:Mn,e=.returned (.tuple #[.agg (qA N),x])/\RX C lo N w'))(hl:lo<=W0.heap.size)(hend:∀ (W:qw) (N:Mn) (gb:Nat) (y:Nat->Value),qY W0 W/\W0.heap.size<=gb/\Blk W gb (qA N) 43/\RX C lo N W->y (slot 7)=.pointer (qP gb)->y (slot 9)=x->Q .normal (sB A y sl) W):(Code.region id ops true).wp prog Q A W0:=by
 obtain ⟨_,_,_,o0,z0⟩:=o0;obtain ⟨_,_,_,o1,z1⟩:=o1;obtain ⟨_,_,_,o2,z2⟩:=o2;obtain ⟨_,_,_,o3,z3⟩:=o3;obtain ⟨_,_,_,o4,z4⟩:=o4;obtain ⟨_,_,_,o5,z5⟩:=o5;obtain ⟨_,_,_,o6,z6⟩:=o6;obtain ⟨_,_,_,o7,z7⟩:=o7;obtain ⟨_,_,_,o8,z8⟩:=o8;obtain ⟨_,_,_,o9,z9⟩:=o9;refine jT (by kernel_rfl) (fun A listed f W=>IG 10 7 8 (PEb (.agg (qK M g0 g1 g2 g3 g4 g5 g6)) m b t C x lo) (RX C lo) slot sl W0 A listed f W) (by rw [hs];exact IG.start rfl) ?_ ?_
 .intro listed f W i K hI hi hK;have hlt:i<10:=by obtain ⟨_,o,ho,_⟩:=mem_ready.1 hi;have:=(Array.getElem?_eq_some_iff.1 ho).1;omega
  have hb:=(mem_ready.1 hi).1;have hz:=xM hl hI.b.size;rcases (show i=0\/i=1\/i=2\/i=3\/i=4\/i=5\/i=6\/i=7\/i=8\/i=9 by omega) with rfl|rfl|rfl|rfl|rfl|rfl|rfl|rfl|rfl|rfl
  .have y:=(hI.fo 8 na.1).trans ha;simp only [xK] at y;exact mP o0 rfl (w':=W) (pF (HK W hI.b).1 y) (hK _ _ (hI.next (lR (.agg (qK M g0 g1 g2 g3 g4 g5 g6)) m b t C x lo) q (by decide) (j:=0) (by omega) (by omega) (by omega) _ W brf rfl))
  .obtain ⟨z0,z1,z2⟩:=(HK W hI.b).2;have y:=(hI.fo 3 na.2).trans ht;simp only [xK] at y;refine mP o1 rfl (w':=W) (v:=.agg (qT m b t)) ?_ (hK _ _ (hI.next (lR (.agg (qK M g0 g1 g2 g3 g4 g5 g6)) m b t C x lo) q (by decide) (j:=1) (by omega) (by omega) (by omega) _ W brf rfl));go_simp
  .have t1:=bQ hi o2 ⟨1,.data⟩ (z2 1 (by simp)) rfl;have v1:=hI.p 1 (by omega) (by omega) (by omega) t1;have y1:=show f.tmps.getD (slot 1) undef=.agg (qT m b t) from v1;simp only [xK] at y1;refine aIv o2 rfl (f:=20) (args:=#[.agg (qT m b t)]) (w':=W) (by go_simp) (mR m b t W) ?_;rintro e W' ⟨rfl,hb1⟩;exact ⟨_,rfl,(hK _ _ (hI.next (lR (.agg (qK M g0 g1 g2 g3 g4 g5 g6)) m b t C x lo) q (by decide) (j:=2) (by omega) (by omega) (by omega) _ _ hb1 rfl))⟩
  .have t0:=bQ hi o3 ⟨0,.data⟩ (z3 0 (by simp)) rfl;have v0:=hI.p 0 (by omega) (by omega) (by omega) t0;have t2:=bQ hi o3 ⟨2,.data⟩ (z3 2 (by simp)) rfl;have v2:=hI.p 2 (by omega) (by omega) (by omega) t2;have y0:=show f.tmps.getD (slot 0) undef=.agg (qK M g0 g1 g2 g3 g4 g5 g6) from v0;simp only [xK] at y0;have y2:=show f.tmps.getD (slot 2) undef=.agg (qT m b t) from v2;simp only [xK] at y2;refine aIv o3 rfl (f:=F) (args:=#[.agg (qK M g0 g1 g2 g3 g4 g5 g6),.agg (qT m b t)]) (w':=W) (by go_simp) (HE W hI.b hz) ?_;rintro e W' ⟨hb1,N,rfl,rx⟩;exact ⟨_,rfl,(hK _ _ (hI.next (lR (.agg (qK M g0 g1 g2 g3 g4 g5 g6)) m b t C x lo) q (by decide) (j:=3) (by omega) (by omega) (by omega) _ _ hb1 ⟨N,rfl,rx⟩))⟩
  .have t3:=bQ hi o4 ⟨3,.data⟩ (z4 3 (by simp)) rfl;have v3:=hI.p 3 (by omega) (by omega) (by omega) t3;obtain ⟨N,y,rx⟩:=v3;have y:=show f.tmps.getD (slot 3) undef=_ from y;simp only [xK] at y;refine mP o4 rfl (w':=W) (v:=.tuple #[.agg (qA N),x]) ?_ (hK _ _ (hI.next (lR (.agg (qK M g0 g1 g2 g3 g4 g5 g6)) m b t C x lo) q (by decide) (j:=4) (by omega) (by omega) (by omega) _ W brf ⟨N,rfl,rx⟩));go_simp
  .have t4:=bQ hi o5 ⟨4,.data⟩ (z5 4 (by simp)) rfl;have v4:=hI.p 4 (by omega) (by omega) (by omega) t4;obtain ⟨N,y,rx⟩:=v4;have y:=show f.tmps.getD (slot 4) undef=_ from y;simp only [xK] at y;refine mP o5 rfl (w':=W) (v:=.agg (qA N)) ?_ (hK _ _ (hI.next (lR (.agg (qK M g0 g1 g2 g3 g4 g5 g6)) m b t C x lo) q (by decide) (j:=5) (by omega) (by omega) (by omega) _ W brf ⟨N,rfl,rx⟩));go_simp
  .have t4:=bQ hi o6 ⟨4,.data⟩ (z6 4 (by simp)) rfl;have v4:=hI.p 4 (by omega) (by omega) (by omega) t4;obtain ⟨N,y,rx⟩:=v4;have y:=show f.tmps.getD (slot 4) undef=_ from y;simp only [xK] at y;refine mP o6 rfl (w':=W) (v:=x) ?_ (hK _ _ (hI.next (lR (.agg (qK M g0 g1 g2 g3 g4 g5 g6)) m b t C x lo) q (by decide) (j:=6) (by omega) (by omega) (by omega) _ W brf rfl));go_simp
  .refine mP o7 rfl (w':=W.alloc (.cells z15 43)) (v:=.pointer (qP W.heap.size)) ?_ (hK _ _ (hI.box (lR (.agg (qK M g0 g1 g2 g3 g4 g5 g6)) m b t C x lo) q (by decide) hb));unfold z15;go_simp
  .have t7:=bQ hi o8 ⟨7,.data⟩ (z8 7 (by simp)) rfl;have t5:=bQ hi o8 ⟨5,.data⟩ (z8 5 (by simp)) rfl;have v5:=hI.p 5 (by omega) (by omega) (by omega) t5;obtain ⟨N,y6,rx⟩:=v5;have y6:=show f.tmps.getD (slot 5) undef=_ from y6;obtain ⟨gb,y9,e2,e3,_⟩:=hI.bx t7;have kb:=e3 ((aMy (by rw [hI.sz];omega) true).symm.trans hb);refine aPs o8 rfl (w':=dP W gb (qS N.ma N.mn N.mc) (qI N.cs) (qI N.cw) (qI N.ck) (qI N.cd) (qI N.pc) (qS N.ka N.kn N.kc) (qS N.fa N.fn N.fc) (qS N.ra N.rn N.rc) (qS N.oa N.on N.oc) (qI N.md) (qI N.bk) (qS N.la N.ln N.lc) (qS N.ha N.hn N.hc) (qI N.tn)) ?_ (hK _ _ (hI.store (lR (.agg (qK M g0 g1 g2 g3 g4 g5 g6)) m b t C x lo) (by decide) hb t7 rx y9 e2 kb));simp only [xK] at y6 y9;exact aNu kb y9 y6
  .have t6:=bQ hi o9 ⟨6,.data⟩ (z9 6 (by simp)) rfl;have v6:=hI.p 6 (by omega) (by omega) (by omega) t6;have y6:=show f.tmps.getD (slot 6) undef=x from v6;simp only [xK] at y6;refine mP o9 rfl (w':=W) (v:=x) ?_ (hK _ _ (hI.next (lR (.agg (qK M g0 g1 g2 g3 g4 g5 g6)) m b t C x lo) q (by decide) (j:=9) (by omega) (by omega) (by omega) _ W brf rfl));go_simp
 intro listed f W hI hr;have hal:=aG3 hr hall (hI.sz.trans hs.symm);rw [hs] at hal;obtain ⟨gb,e1,e2,_,e4⟩:=hI.bx (hal 7 (by omega));obtain ⟨N,kb,O⟩:=e4 (hal 8 (by omega));have xq:=hI.p 9 (by omega) (by omega) (by omega) (hal 9 (by omega));rw [aGa hI.fd hI.fs hI.fo];exact hend W N gb _ ⟨hI.b,e2,kb,O⟩ e1 xq
