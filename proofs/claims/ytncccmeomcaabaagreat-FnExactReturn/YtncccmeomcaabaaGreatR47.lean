import Derived.Below
import Derived.Orders
import Derived.Test.YtncccmeomcaabaaGreatR36
import Derived.Test.YtncccmeomcaabaaGreatR41
import Derived.Test.YtncccmeomcaabaaGreatR45
set_option linter.all false
namespace Go.Proofs.YtncccmeomcaabaaGreat
open Go.RowKit Classical
set_option maxRecDepth 100000
variable {C:Cn}{M N:Mn}{base c g0 g1 g2 g3 g4 g5 g6 lo:Nat}{m:Md}{ms':List Md}
set_option maxHeartbeats 1000000 in
theorem aPo {a:Act}{W:qw}{G k:Nat}{d:Option Tmp}{ty:TypeId}{p:String}{af:Array _}{gd:Option _}{v0 v1 v2 v3 v4 v5 v6 v7 v8 v9 v10 v11 v12 v13 v14:Value}(kb:Blk W G #[v0,v1,v2,v3,v4,v5,v6,v7,v8,v9,v10,v11,v12,v13,v14] 34)(h:a.tmps[k]?.getD undef=.pointer (qP G)):(execOp a.eval { dst:=d,op:=Op.load 34 (Operand.tmp k),type:=ty,pos:=p,after:=af,guard:=gd }).run Tryz.prog W=.ok (.value (.agg #[v0,v1,v2,v3,v4,v5,v6,v7,v8,v9,v10,v11,v12,v13,v14])) W:=by
 obtain ⟨q0,q1,q2,q3,q4,q5,q6,q7,q8,q9,q10,q11,q12,q13,q14⟩:=kb.mc;go_simp
theorem aOr (e:aE ms'=aE M.ms):MOk (M.cp g0 g1 g2 g3 g4 g5 g6 ms') ↔ MOk M:=by
 have eL:(M.cp g0 g1 g2 g3 g4 g5 g6 ms').L=M.L:=by unfold Mn.L;show lkL (aE ms') M.cs M.cw M.ck M.cd=_;rw [e]
 constructor
 .rintro ⟨l,p,c,b,f,r,t,s,n,h⟩;rw [eL] at p f r s;simp only [Mn.cp] at l p c b f r t s n h;rw [e] at l p f s n h;exact ⟨l,p,c,b,f,r,t,s,n,h⟩
 .rintro ⟨l,p,c,b,f,r,t,s,n,h⟩;rw [<- eL] at p f r s;rw [<- e] at l p f s n h;exact ⟨l,p,c,b,f,r,t,s,n,h⟩
theorem aOd {w W W':qw}{base':Nat}{k0 k1 k2 k3 k4 k5 k6:Nat}{m1 m2:List Md}(t:MnT w M)(h:MnR W base M g0 g1 g2 g3 g4 g5 g6 m1)(h':MnR W' base' M k0 k1 k2 k3 k4 k5 k6 m2)(hm:∀ i,i<M.mn->aLf (m1.getD i aK) (m2.getD i aK)):Sam (M.cp g0 g1 g2 g3 g4 g5 g6 m1) (M.cp k0 k1 k2 k3 k4 k5 k6 m2):=
 ⟨⟨rfl,rfl,rfl,rfl,rfl,rfl,rfl,rfl⟩,⟨rfl,rfl,rfl,rfl,rfl,rfl,rfl⟩,⟨rfl,rfl,rfl,rfl,rfl,rfl⟩,hm⟩
theorem nP {α:Type}{f:α->List Value}{W:qw}{g o n:Nat}{ys:List α}(h:Srd f W (some (qR g o)) n c ys)(c':Nat):Srd f W (some (qR g o)) ys.length c' ys:=⟨rfl,.inr (by obtain ⟨_,⟨e,_⟩|q⟩:=h;cases e;exact q)⟩
def Md.mb (m:Md):PMod×Mb:=(m.pm,⟨m.ta,m.tc,m.ba,m.bc,m.bl,m.da,m.dc,m.ra,m.rc,m.ia,m.ic,m.ea,m.ec⟩)
theorem aK1 {m':Md}{W:qw}(hd:m'.md W)(h:eK c m m' W):mdP m'.mb=m'/\Msr W m'.mb/\(m'.size<=1048576->PmG m'.mb.1):=by
 obtain ⟨g1,g2,g3,g5,g6,g7,gs,rfl,_,_,_,_,_,_,hg,r1,r2,r3,r5,r6,r7⟩:=h;obtain ⟨hn,ht,hb,hdd,hs,hr,hi,he⟩:=hd
 have hbk:∀ k,k<(reb gs m.bl).length->(reb gs m.bl)[k]?=some (some (qR (gs.getD k 0) 0),(m.bl.getD k zB).2.2.2.length,(m.bl.getD k zB).2.1,(m.bl.getD k zB).2.2.2)/\W.cell? (qR g2 k)=some (.slice (some (qR (gs.getD k 0) 0)) (m.bl.getD k zB).2.2.2.length (m.bl.getD k zB).2.1)/\IS W (some (qR (gs.getD k 0) 0)) (m.bl.getD k zB).2.1 (m.bl.getD k zB).2.1 (m.bl.getD k zB).2.2.2:=fun k hk=>by
  have hk':k<m.bl.length:=by rw [mR] at hk;exact hk
  obtain ⟨b1,b2,b3,b4,b5⟩:=hb;dsimp only at b1 b3 b4;have q:=b4 k (by omega);obtain ⟨b,off,e,hc⟩:=b3 (by omega);cases e
  have c:=hc k (by omega);rw [gW _ _ _ hk'] at q c;rw [Nat.zero_add] at c;rw [q.1];refine ⟨?_,c,q⟩;have:=gW gs m.bl k hk';rw [xB,xN hk] at this;rw [xN hk];exact congrArg some this
 refine ⟨?_,⟨nP (aEm ht) _,fun k hk=>?_,rfl,nP (aO4 hdd) _,nP (aEm hr) _,nP (aN8 hi) _,nP (aOz he) _⟩,fun hz=>?_⟩
 .simp only [mdP,Md.mb,Md.pm];rw [ht.1,hb.1,hdd.1,hr.1,hi.1,he.1]
 .obtain ⟨q1,q2,q3⟩:=hbk k hk;exact ⟨g2,_,_,_,rfl,q1,q2,nP (aEm q3) _⟩
 .unfold Md.size cR at hz;dsimp only at hz;have e1:=ht.1;have e2:=hb.1;have e3:=hdd.1;have e4:=hr.1;have e5:=hi.1;have e6:=he.1;dsimp only at e1 e2 e3 e4 e5 e6;refine ⟨hn,⟨by show m.tz.length<=_;omega,ht.2.2.1⟩,⟨by show (List.map _ (reb gs m.bl)).length<=_;rw [xH];omega,fun l hl=>?_⟩,⟨by show m.dz.length<=_;omega,hdd.2.2.1⟩,hs,⟨by show m.rz.length<=_;omega,hr.2.2.1⟩,⟨by show m.ss.length<=_;omega,hi.2.2.1⟩,⟨by show m.es.length<=_;omega,he.2.2.1⟩⟩;obtain ⟨B,hB,rfl⟩:=List.mem_map.1 (show l∈(reb gs m.bl).map (fun B=>B.2.2.2) from hl);obtain ⟨k,hk,rfl⟩:=List.mem_iff_getElem.1 hB;have q:IS W ((reb gs m.bl).getD k zB).1 ((reb gs m.bl).getD k zB).2.1 ((reb gs m.bl).getD k zB).2.2.1 ((reb gs m.bl).getD k zB).2.2.2:=hb.2.2.2.1 k (by show k<m.bn;omega);rw [xB,xN hk,Option.getD_some] at q;have u:=yN (fun j=>((reb gs m.bl).getD j zB).2.1) m.bn k (by omega);rw [xB,xN hk,Option.getD_some] at u;exact ⟨by have:=q.1;omega,q.2.2.1⟩
theorem MnR.mns {w W:qw}(h:MnR W base M g0 g1 g2 g3 g4 g5 g6 ms')(t:MnT w M)(b:MnB M):MnS W (M.cp g0 g1 g2 g3 g4 g5 g6 ms') g0 g1 0 g2 0 g3 0 g4 0 (ms'.map Md.mb):=by
 have D:=h.mnd t b
 have key:∀ i,(hi:i<ms'.length)->mdP (ms'.getD i aK).mb=ms'.getD i aK/\Msr W (ms'.getD i aK).mb/\PmG (ms'.getD i aK).mb.1:=fun i hi=>by
  have hn:=h.n;obtain ⟨k1,k2,k3⟩:=aK1 (D.m.d i (by show i<M.mn;omega)) (h.m.2.2 i hi).2;refine ⟨k1,k2,k3 ?_⟩;have e:=yG (h.m.2.2 i hi).2 (t.m.2.2.2.1 i (by omega)).b.1;have:=b.m i (by omega);show (ms'.getD i aK).size<=_;omega
 have get:∀ (i:Nat) (x:PMod×Mb),(ms'.map Md.mb)[i]?=some x->i<ms'.length/\x=(ms'.getD i aK).mb:=fun i x hx=>by
  rw [List.getElem?_map] at hx;obtain ⟨m,hm,rfl⟩:=Option.map_eq_some_iff.1 hx;obtain ⟨hi,rfl⟩:=List.getElem?_eq_some_iff.1 hm;exact ⟨hi,by simp [xB,hi]⟩
 refine ⟨⟨rfl,rfl,rfl,rfl,rfl⟩,⟨fun i x hx=>?_,fun i x hx=>?_⟩,?_,?_,D.k,D.f,D.r,D.o,aJo h.l,aJo h.h,⟨b.n,b.k,b.b,b.l,b.h⟩⟩
 .obtain ⟨hi,rfl⟩:=get i x hx;refine ⟨g0,rfl,?_⟩;rw [(key i hi).1];exact (h.m.2.2 i hi).1
 .obtain ⟨hi,rfl⟩:=get i x hx;exact (key i hi).2
 .rw [xH];exact h.n
 .rw [List.map_map];rfl
theorem aNy (e:aE ms'=aE M.ms):(M.cp g0 g1 g2 g3 g4 g5 g6 ms').cn=M.cn:=by
 unfold Mn.cn Mn.cp;dsimp only;rw [e]
def RX (C:Cn)(lo:Nat)(N:Mn)(W:qw):Prop:=∃ base mid L β,MxO W base mid C N L β/\lo<=base
theorem RX.tm {W W':qw}(h:RX C lo N W)(t:TMx W W'):RX C lo N W':=by
 obtain ⟨base,mid,L,β,h,hl⟩:=h;exact ⟨base,mid,L,β,h.tm t,hl⟩
theorem RX.bw {W W':qw}(h:RX C lo N W)(hb:qY W W'):RX C lo N W':=h.tm (dQ hb)
theorem RX.turn {W W':qw}{S:Nat->Prop}(h:RX C lo N W)(t:Turn S W W')(hS:∀ j,S j->j<lo):RX C lo N W':=by
 obtain ⟨base,mid,L,β,h,hl⟩:=h;exact ⟨base,mid,L,β,h.turn t (fun j hj=>Nat.lt_of_lt_of_le (hS j hj) hl),hl⟩
theorem RX.mnd {W:qw}(h:RX C lo N W)(hn:C.ps.length<=1048576):MnD W N:=by
 obtain ⟨base,mid,L,β,h,hl⟩:=h;refine h.mnd ?_;have h1:=h.len;have h2:=congrArg List.length h.e;rw [xH] at h2;omega
theorem RX.sam {lo':Nat}{N':Mn}{W W':qw}(h:RX C lo N W)(h':RX C lo' N' W'):Sam N N':=by
 obtain ⟨_,_,_,_,h,_⟩:=h;obtain ⟨_,_,_,_,h',_⟩:=h';exact h.sam h'
section
variable {n kb ks:Nat}{P:Nat->Value->World->Prop}{R:Mn->World->Prop}{slot:Nat->Nat}{sl:List Nat}{W0 W:qw}{A a:Act}{listed:Array Bool}
end
theorem yM (f g:Nat->Nat):∀ n,(∀ j,j<n->f j<=g j)->upS f n<=upS g n
 | 0,_=>aN
 | n+1,h=>by
   have h1:=yM f g n (fun j hj=>h j (by omega));have h2:=h n (by omega);unfold upS;omega
theorem aFk (f:Nat->Nat):∀ n,upS (fun j=>2+3*f j) n=2*n+3*upS f n
 | 0=>rfl
 | n+1=>by
   have:=aFk f n;unfold upS;omega
theorem aN5 {w:qw}(h:m.mt w):szc m.pm<=2+3*m.size:=by
 have e1:=h.t.1;have e2:=h.b.1;have e3:=h.d.1;have e4:=h.r.1;have e5:=h.i.1;have e6:=h.e.1
 have eb:(m.pm.bl.map List.length).sum<=upS (fun j=>(m.bl.getD j zB).2.1) m.bn:=by
  have q:=yK (fun B:Bk=>B.2.2.2.length) zB m.bl;have:(m.pm.bl.map List.length).sum=(m.bl.map fun B=>B.2.2.2.length).sum:=by unfold Md.pm;simp only [List.map_map];rfl
  rw [this,<- q,e2];exact yM _ _ _ (fun j hj=>by rw [(h.b.2.2.2.1 j hj).1];exact aN)
 unfold szc Md.size cR;show 2+m.tz.length+_+m.dz.length+m.rz.length+m.ss.length+3*m.es.length<=_;omega
theorem aOu {w:qw}(t:MnT w M)(b:MnB M):mkn M.cn<=4194305:=by
 have l:=t.m.1
 have s1:((aE M.ms).map szc).sum<=2*M.mn+3*upS (fun j=>(M.ms.getD j aK).size) M.mn:=by
  have q:=yK (fun m:Md=>szc m.pm) aK M.ms;have:((aE M.ms).map szc).sum=(M.ms.map fun m=>szc m.pm).sum:=by unfold aE;rw [List.map_map];rfl
  rw [this,<- q,l,<- aFk];exact yM _ _ _ (fun j hj=>aN5 (t.m.2.2.2.1 j hj))
 have bs:=b.s;have k1:=t.k.1;have k2:=t.f.1;have k3:=t.r.1;have k4:=t.o.1;have k5:=t.l.1;have k6:=t.h.1;unfold mkn Mn.cn;dsimp only;omega
theorem aKx {L:Lay}(hv:Cv C L){m b:Int}(hp:0<=pcq C.ps m b)(t:Int):mkn (dI C L m b t)=mkn C/\(dI C L m b t).ps=C.ps:=by
 unfold dI;by_cases K:C.lz.length≠0/\b≠-1
 .rw [if_pos K];have hs:=hv.slot (lW (xs:=C.lz) m b K.1);refine ⟨?_,rfl⟩;unfold mkn;dsimp only;rw [List.length_set,List.length_set,lC _ _ _ (by rw [aM8];exact hs.2.1)]
 .rw [if_neg K];refine ⟨?_,rfl⟩;unfold mkn;dsimp only;rw [List.length_set]
