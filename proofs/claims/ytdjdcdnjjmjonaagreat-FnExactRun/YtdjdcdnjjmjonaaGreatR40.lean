import Derived.Below
import Derived.Orders
import Derived.Test.YtdjdcdnjjmjonaaGreatR39
set_option linter.all false
set_option maxHeartbeats 8000000
namespace Go.Proofs.YtdjdcdnjjmjonaaGreat
open Go.RowKit
open Go.Proofs.Tryz
set_option maxRecDepth 100000
variable {C:Cn}{L:List (PMod×Mb)}{M N N':Mn}{S:Nat->Prop}{X:World}{Y:Lyb}{a d e v:Value}{b base base' c g g0 g1 g2 g3 g4 g5 g6 i k lo aN n p q:Nat}{j:Int}{m:Md}{ms':List Md}{β:Nat->Nat}
abbrev ocA (X:World)(q:Nat)(a b c d:Value):Prop:=X.cell? (qR q 0)=some a/\X.cell? (qR q 1)=some b/\X.cell? (qR q 2)=some c/\X.cell? (qR q 3)=some d
def fO {u:Value}(h:X.cell? (qR b k)=some u)(hn:b≠g):(X.setCell (qR g i) v).cell? (qR b k)=some u:=(World.cell?_setCell_far X (qR g i) (qR b k) v hn.symm).trans h
def aW0 (h:mcA X b N)(hn:b≠g):mcA (X.setCell (qR g i) v) b N:=
 let⟨a,d,p,q,s,t,u,w,x,y,e,f,j,k,l⟩:=h
 ⟨fO a hn,fO d hn,fO p hn,fO q hn,fO s hn,fO t hn,fO u hn,fO w hn,fO x hn,fO y hn,fO e hn,fO f hn,fO j hn,fO k hn,fO l hn⟩
def aW1 (h:mcA X b N):mcA X.drew b N:=h
def aWx {c:Value}(h:ocA X b a c d e):ocA X.drew b a c d e:=h
def aWw {c:Value}(h:ocA X b a c d e)(hn:b≠g):ocA (X.setCell (qR g i) v) b a c d e:=
 let⟨f,j,k,l⟩:=h
 ⟨fO f hn,fO j hn,fO k hn,fO l hn⟩
structure Rtl (w W:qw)(q:Nat)(i j k:Int)(C:Cn)(N:Mn)(base aN:Nat)(L:List (PMod×Mb))(β:Nat->Nat):Prop where
 be:qY w W
 k0:Blk W w.heap.size (qA N) 43
 k1:Blk W (w.heap.size+1) z15 43
 k2:Blk W (w.heap.size+1+1) zOc 51
 ko:Blk W q #[qI i,qI j,qI k,qS none 0 0] 51
 m:MxO W base aN C N L β
 o:w.heap.size+2<q/\w.heap.size+2<base/\(aN<=q\/q<base)/\C.oz.length<=1048576
def Rs.fin {w W f V:qw}{i u:Int}(S:Rs w W V Y b p q k C N base aN L β)(T:Turn (λj=>j=q) W f)(t:Blk f q #[qI i,qI j,qI u,qS none 0 0] 51)(on:C.oz.length<=1048576):Rtl w f q i j u C N base aN L β:=by
 let⟨a,d,e,g,x,l⟩:=S.o;refine⟨aF S.be T (λj s=>J) S.be.size,aC T S.k0 J,aC T S.k1 J,aC T S.k2 J,t,?_,J,J,l,on⟩;rcases l with h|h
 .exact S.m.bx S.ko h Ja T
 .exact S.m.turn T (λj s=>J)
def aKm {w W W':qw}(h:Turn S w W)(T:Turn (λj=>j=g) W W')(l:w.heap.size<=g):Turn S w W':=⟨T.os.trans h.os,T.tape.trans h.tape,T.output.trans h.output,xM h.size T.size,λk f hs=>(T.block k (Nat.lt_of_lt_of_le f h.size) λ(e:k=g)=>J).trans$ h.block k f hs⟩
def Rs.nxt {w W y V:qw}{s:Nat}{H:Cn}{G:List (PMod×Mb)}{β':Nat->Nat}{cs:Array Value}(S:Rs w W V Y b p q k C N base aN L β)(K:qY W y)(Q:MxO y base' s H N' G β')(O:W.heap.size<=base')(D:Blk y g cs 43)(M:V.heap.size<=g):Rs w ((stM (stM y g N') w.heap.size N').setCell (qR q 2)$ qI ((k+1:Nat):Int)) V Y b p q (k+1) H N' base' s G β':=by
 let⟨d,e,U,i,a,X⟩:=S.o;have t:=S.bw K;have l:=pY y g N';have u:=pY (stM y g N') w.heap.size N';have:=S.ko.lt;have:=S.kl.lt;have B:=aC l t.k0 J;have P:=(Q.tm$ dH D l).tm$ dH B u;have f:=(t.ko.kp D l).kp B u;have x:=aK (stM (stM y g N') w.heap.size N') q 2$ qI ((k+1:Nat):Int);have I:=aF t.be l (λj A=>J) t.be.size;have E:=aF I u (λj A=>J) I.size;exact⟨aF E x (λj A=>J) E.size,(vT B N').kp f x,(aC u (aC l t.k1 J) J).kp f x,aC x (aC u (aC l t.k2 J) J) J,((t.kl.kp D l).kp B u).kp f x,f.set 2$ qI ((k+1:Nat):Int),P.turn x λj A=>J,aKm ((aKm t.T l M).trans$ u.mono λj A=>J) x a,d,e,J,i,a,.inr J⟩
def qG {A B C' D E F x:Code}(l:f12.body=some (A.seq$ B.seq$ C'.seq$ D.seq$ E.seq$ F.seq x)){w W:qw}{i k:Int}(R:Rtl w W q i j k C N base aN L β){u0 u1 u3 u6 u7 u9 ah a9 ag bf ax ak a3 a8 a6 am bm aa a5 bd a1 bb ae bc b9 b3 a7 bl bh au bg b1 b8 a0 ao b2 ab b7 ai av a2 bi bp aw bj aj ap aq ac Z bn bo ar af an V a4 ba az ay ad b4 b0:Value}:
 Code.wp prog x (bodyPost prog f12$ MQo w (i,j,k,C)) ⟨#[u0,u1,.pointer$ qP w.heap.size,u3,.pointer$ qP$ w.heap.size+1,.pointer$ qP$ w.heap.size+1+1,u6,u7,.pointer$ qP q,u9,ah,a9,ag,bf,ax,ak,a3,a8,a6,am,bm,aa,a5,bd,a1,bb,ae,bc,b9,b3,a7,bl,bh,au,bg,b1,b8,a0,ao,b2,ab,b7,ai,av,a2,bi,bp,aw,bj,aj,ap,aq,ac,Z,bn,bo,ar,af,an,V,a4,ba,az,ay,ad,b4,b0],[]⟩ W:=by
 injection l with l
 injection l with _ l
 injection l with _ l
 injection l with _ l
 injection l with _ l
 injection l with _ l
 injection l with _ l
 subst l;have I:=zh (zD N.oa N.on N.oc C.oz W (R.m.q.2.2.1.mono$ xC _) (by rw[bC R.m.q.2.2.1];exact R.o.2.2.2));have c4:=R.k0.mc;have HX:=zh R;clear R;go_wp2_with fail
 apply I.o.mono;rintro e X5 ⟨s,f,rfl,G,t⟩;obtain⟨a,k4,r1,r2,p,g,l1,l2,U,_⟩:=HX.o;obtain⟨X6,d⟩:=aO$ X5.setCell (qR q 3)$ qS s N.on f;have y:=p.bw t;have u:Turn (λj=>j=q) X5 X6:=by rw[d];exact aK _ _ _ _
 have o6:Blk X6 q #[qI i,qI j,qI k,qS s N.on f] 51:=by rw[d];exact y.set 3$ qS s N.on f
 have k6:=(k4.bw t).kp y u;have S:=(r1.bw t).kp y u;have O:Blk X6 (w.heap.size+1+1) zOc 51:=aC u (r2.bw t) J
 have m6:MxO X6 base aN C N L β:=by
  rcases U with U|U
  .exact(g.bw t).bx y U Ja u
  .exact(g.bw t).turn u (λj M=>J)
 have:=y.z4;have:=y.frozen;have d3:mcA X6 w.heap.size N:=k6.mc;have d4:ocA X6 q (qI i) (qI j) (qI k) (qS s N.on f):=o6.z4;have b:=S;unfold z15 at b;have:=b.frozen;have b:=b.mc;have:=O.frozen;have:=O.z4;have bk:=zh d;have Q:=aF (yT a t) u (λj M=>J) (yT a t).size;have K:Turn (λj=>j=w.heap.size+1) X6 (stM X6 (w.heap.size+1) N):=bG _ _ _ _ _ _ _ _ _ _ _ _ _ _ _ _ _;have P:=aFz (stM X6 (w.heap.size+1) N) (w.heap.size+1+1) i j k$ qS s N.on f;have:=p.lt
 have HE:=zh (show MQo w (i,j,k,C) (.returned$ .tuple #[.agg$ qA N,.agg #[qI i,qI j,qI k,qS s N.on f]]) (stO (stM X6 (w.heap.size+1) N) (w.heap.size+1+1) i j k$ qS s N.on f)from
  ⟨aF (aF Q K (λj M=>J) Q.size) P (λj M=>J)$ xM Q.size K.size,N,base,aN,L,β,W,s,N.on,f,rfl,(m6.turn K λj M=>J).turn P λj M=>J,g,J,a.size,aP P (aP K (aP u G (λk H e=>by have:=(G.lt k H).1;omega)) (λk H e=>by have:=(G.lt k H).1;omega)) (λk H e=>by have:=(G.lt k H).1;omega)⟩)
 have Y:=zh$ xA S O;have:¬q=w.heap.size/\¬w.heap.size=q/\¬q=w.heap.size+1/\¬w.heap.size+1=q/\¬q=w.heap.size+1+1/\¬w.heap.size+1+1=q:=J
 clear a k4 p r1 r2 y u o6 k6 S O Q K P G t d HX c4 I g m6;go_wp2_with (rw[<-bk.o])
 go_region_held3 (λX=>mcA X w.heap.size N/\ocA X q (qI i) (qI j) (qI k) (qS s N.on f)) ((constructor<;>(repeat(first|with_reducible exact d3|with_reducible exact d4|with_reducible refine aW0 ?_ J|with_reducible refine aWw ?_ J|with_reducible apply aW1|with_reducible apply aWx)))) (fail)
 go_wp2;exact aOw N rfl Y.o.1 Y.o.2 rfl rfl HE.o.dr
def aW6 {a:Act}{W:qw}{G:Nat}{d:Option Tmp}{H:TypeId}{p:String}{E:Array _}{D:Option _}{v0 v1 v2 v3 v4 A x y B w f s u t l:Value}(kb:Blk W G #[v0,v1,v2,v3,v4,A,x,y,B,w,f,s,u,t,l] 34)(h:a.tmps[k]?.getD undef=.pointer (qP G)):(execOp a.eval { dst:=d,op:=Op.load 34$ Operand.tmp k,type:=H,pos:=p,after:=E,guard:=D }).run prog W=.ok (.value$ .agg #[v0,v1,v2,v3,v4,A,x,y,B,w,f,s,u,t,l]) W:=by
 have:=kb.mc;go_simp
def aIx (e:aI ms'=aI M.ms):MOk (M.cp g0 g1 g2 g3 g4 g5 g6 ms') ↔ MOk M:=by
 have u:(M.cp g0 g1 g2 g3 g4 g5 g6 ms').L=M.L:=by unfold Mn.L;show lkL (aI ms') M.cs M.cw M.ck M.cd=_;rw[e]
 constructor
 .rintro⟨l,p,c,b,f,r,t,s,n,h⟩;rw[u]at p f r s;simp only[Mn.cp]at l p c b f r t s n h;rw[e]at l p f s n h;exact⟨l,p,c,b,f,r,t,s,n,h⟩
 .rintro⟨l,p,c,b,f,r,t,s,n,h⟩;rw[<-u]at p f r s;rw[<-e]at l p f s n h;exact⟨l,p,c,b,f,r,t,s,n,h⟩
def aU2 {w W G:qw}{A x u D B s y:Nat}{f l:List Md}(t:MnT w M)(h:MnR W base M g0 g1 g2 g3 g4 g5 g6 f)(H:MnR G base' M A x u D B s y l)(E:∀i,i<M.mn->aRe (f.getD i aM) (l.getD i aM)):Sam (M.cp g0 g1 g2 g3 g4 g5 g6 f) (M.cp A x u D B s y l):=
 ⟨⟨rfl,rfl,rfl,rfl,rfl,rfl,rfl,rfl⟩,⟨rfl,rfl,rfl,rfl,rfl,rfl,rfl⟩,⟨rfl,rfl,rfl,rfl,rfl,rfl⟩,E⟩
def sI {α:Type}{f:α->List Value}{W:qw}{o:Nat}{ys:List α}(h:Srd f W (some$ qR g o) n c ys)(c'):Srd f W (some$ qR g o) ys.length c' ys:=⟨rfl,.inr (by obtain⟨_,⟨e,_⟩|q⟩:=h;cases e;exact q)⟩
def Md.mb (m:Md):PMod×Mb:=(m.pm,⟨m.ta,m.tc,m.ba,m.bc,m.bl,m.da,m.dc,m.ra,m.rc,m.ia,m.ic,m.ea,m.ec⟩)
theorem aQx {f:Md}{W:qw}(hd:f.md W)(h:gH c m f W):mdP f.mb=f/\Msr W f.mb/\(f.size<=1048576->PmG f.mb.1):=by
 obtain⟨Q,D,S,U,V,X,a,rfl,_,_,_,_,_,_,Y,Z,r2,r3,r5,r6,r7⟩:=h;obtain⟨I,y,d,g,hs,p,hi,i⟩:=hd
 have w:∀k,k<(reb a m.bl).length->(reb a m.bl)[k]?=some (qP$ a.getD k 0,(m.bl.getD k zB).2.2.2.length,(m.bl.getD k zB).2.1,(m.bl.getD k zB).2.2.2)/\qN W D k=some (.slice (qP$ a.getD k 0) (m.bl.getD k zB).2.2.2.length (m.bl.getD k zB).2.1)/\IS W (qP$ a.getD k 0) (m.bl.getD k zB).2.1 (m.bl.getD k zB).2.1 (m.bl.getD k zB).2.2.2:=λk s=>by
  have t:k<m.bl.length:=by rw[qH]at s;exact s
  obtain⟨G,O,A,C,P⟩:=d;dsimp only at G A C;have q:=C k J;let⟨b,off,e,hc⟩:=A J;cases e
  have c:=hc k J;rw[jU _ _ _ t]at q c;rw[Nat.zero_add]at c;rw[q.1];refine⟨?_,c,q⟩;have:=jU a m.bl k t
  grind
 refine⟨?_,⟨sI (zF y) _,λk s=>?_,rfl,sI (aVy g) _,sI (zF p) _,sI (aUx hi) _,sI (aVt i) _⟩,λE=>?_⟩
 .simp only[mdP,Md.mb,Md.pm];rw[y.1,d.1,g.1,p.1,hi.1,i.1]
 .have⟨K,M,N⟩:=w k s;exact⟨D,_,_,_,rfl,K,M,sI (zF N) _⟩
 .unfold Md.size dF at E;dsimp only at E;have e1:=y.1;have e2:=d.1;have e3:=g.1;have e4:=p.1;have e5:=hi.1;have e6:=i.1;dsimp only at e1 e2 e3 e4 e5 e6;refine⟨I,⟨by show m.tz.length<=_;omega,y.2.2.1⟩,⟨by show(List.map _$ reb a m.bl).length<=_;rw[xH];omega,λl x=>?_⟩,⟨by show m.dz.length<=_;omega,g.2.2.1⟩,hs,⟨by show m.rz.length<=_;omega,p.2.2.1⟩,⟨by show m.ss.length<=_;omega,hi.2.2.1⟩,⟨by show m.es.length<=_;omega,i.2.2.1⟩⟩;obtain⟨B,H,rfl⟩:=List.mem_map.1$ show l∈(reb a m.bl).map (λB=>B.2.2.2)from x;obtain⟨k,s,rfl⟩:=List.mem_iff_getElem.1 H;have q:IS W ((reb a m.bl).getD k zB).1 ((reb a m.bl).getD k zB).2.1 ((reb a m.bl).getD k zB).2.2.1 ((reb a m.bl).getD k zB).2.2.2:=d.2.2.2.1 k (by grind);rw[xB,xN s,Option.getD_some]at q;have u:=aDb (λj=>((reb a m.bl).getD j zB).2.1) m.bn k J;rw[xB,xN s,Option.getD_some]at u;exact⟨by grind,q.2.2.1⟩
def aVj {W:qw}{zs:qi}(h:Row8 W g zs)(b:BS W (qP g) n n zs):OB W 0 (qS (qP g) n n) zs:=by
 obtain rfl:=b.1;exact⟨⟨Jb,.inr ⟨g,zs.length,_,rfl,xC _,h,aQ,b.2.1,Jb,by simp[xG]⟩⟩,b.2.2.1⟩
theorem MnR.mns {w W:qw}(h:MnR W base M g0 g1 g2 g3 g4 g5 g6 ms')(t:MnT w M)(b:MnB M):MnS W (M.cp g0 g1 g2 g3 g4 g5 g6 ms') (ms'.map Md.mb):=by
 have D:=h.mnd t b
 have l:∀i,(hi:i<ms'.length)->mdP (ms'.getD i aM).mb=ms'.getD i aM/\Msr W (ms'.getD i aM).mb/\PmG (ms'.getD i aM).mb.1:=λi hi=>by
  have:=h.n;let⟨a,d,e⟩:=aQx (D.m.d i (by show i<M.mn;omega)) (h.m.2.2 i hi).2;refine⟨a,d,e ?_⟩;have:=aC1 (h.m.2.2 i hi).2 (t.m.2.2.2.1 i J).b.1;have:=b.m i J;show(ms'.getD i aM).size<=_;omega
 have f:∀(i:Nat)(x:PMod×Mb),(ms'.map Md.mb)[i]?=some x->i<ms'.length/\x=(ms'.getD i aM).mb:=λi x hx=>by
  grind
 refine⟨⟨⟨g0,rfl⟩,g1,0,rfl⟩,⟨λi x hx=>?_,λi x hx=>?_⟩,?_,?_,D.k,aVj h.f D.f,aVj h.r D.r,aVj h.o D.o,jV h.l,jV h.h,⟨b.n,b.k,b.b,b.l,b.h⟩⟩
 .obtain⟨hi,rfl⟩:=f i x hx;refine⟨g0,rfl,?_⟩;rw[(l i hi).1];exact(h.m.2.2 i hi).1
 .grind
 .rw[xH];exact h.n
 .rw[List.map_map];rfl
def aUh (e:aI ms'=aI M.ms):(M.cp g0 g1 g2 g3 g4 g5 g6 ms').cn=M.cn:=by
 unfold Mn.cn Mn.cp;rw[e]
def RX (C:Cn)(lo:Nat)(N:Mn)(W:qw):Prop:=∃base aN L β,MxO W base aN C N L β/\lo<=base
def RX.tm {W W':qw}(h:RX C lo N W)(t:TMx W W'):RX C lo N W':=by
 obtain⟨a,aN,L,d,h,b⟩:=h;exact⟨a,aN,L,d,h.tm t,b⟩
def RX.bw {W W':qw}(h:RX C lo N W)(f:qY W W'):RX C lo N W':=h.tm$ fH f
def RX.turn {W W':qw}(h:RX C lo N W)(t:Turn S W W')(hS:∀j,S j->j<lo):RX C lo N W':=by
 obtain⟨b,aN,L,d,h,a⟩:=h;exact⟨b,aN,L,d,h.turn t λj f=>Nat.lt_of_lt_of_le (hS j f) a,a⟩
theorem RX.mnd {W:qw}(h:RX C lo N W)(hn:C.ps.length<=1048576):MnD W N:=by
 obtain⟨a,aN,L,d,h,b⟩:=h;refine h.mnd ?_;have:=h.len;have:=congrArg List.length h.e
 grind
def RX.sam {l:Nat}{W s:qw}(h:RX C lo N W)(f:RX C l N' s):Sam N N':=by
 obtain⟨_,_,_,_,h,_⟩:=h;obtain⟨_,_,_,_,f,_⟩:=f;exact h.sam f
section
variable {n kb ks:Nat}{P:Nat->Value->World->Prop}{R:Mn->World->Prop}{slot:Nat->Nat}{sl:List Nat}{W0 W:qw}{A a:Act}{listed:Array Bool}
end
def aDa (f g:Nat->Nat):∀n,(∀j,j<n->f j<=g j)->upS f n<=upS g n
 | 0,_=>aQ
 | n+1,h=>by
   have:=aDa f g n λj s=>h j J;have:=h n J;unfold upS;omega
def aKl (f:Nat->Nat):∀n,upS (λj=>2+3*f j) n=2*n+3*upS f n
 | 0=>rfl
 | n+1=>by
   have:=aKl f n;unfold upS;omega
def aUu {w:qw}(h:m.mt w):szc m.pm<=2+3*m.size:=by
 have e1:=h.t.1;have e2:=h.b.1;have e3:=h.d.1;have e4:=h.r.1;have e5:=h.i.1;have e6:=h.e.1
 have l:(m.pm.bl.map List.length).sum<=upS (λj=>(m.bl.getD j zB).2.1) m.bn:=by
  have q:=aC8 (λB:Bk=>B.2.2.2.length) zB m.bl;have:(m.pm.bl.map List.length).sum=(m.bl.map λB=>B.2.2.2.length).sum:=by unfold Md.pm;simp only[List.map_map];rfl
  rw[this,<-q,e2];exact aDa _ _ _ (λj f=>by rw[(h.b.2.2.2.1 j f).1];exact aQ)
 unfold szc Md.size dF;show 2+m.tz.length+_+m.dz.length+m.rz.length+m.ss.length+3*m.es.length<=_;omega
theorem aSp {w:qw}(t:MnT w M)(b:MnB M):mkn M.cn+3*M.kn<=4194305:=by
 have l:=t.m.1
 have s1:((aI M.ms).map szc).sum<=2*M.mn+3*upS (λj=>(M.ms.getD j aM).size) M.mn:=by
  have q:=aC8 (λm:Md=>szc m.pm) aM M.ms;have:((aI M.ms).map szc).sum=(M.ms.map λm=>szc m.pm).sum:=by unfold aI;rw[List.map_map];rfl
  rw[this,<-q,l,<-aKl];exact aDa _ _ _ λj f=>aUu$ t.m.2.2.2.1 j f
 have bs:=b.s;have x:=t.k.1;have u:=t.f.1;have D:=t.r.1;have B:=t.o.1;have s:=t.l.1;have y:=t.h.1;unfold mkn Mn.cn
 grind
def aVm {w:qw}(t:MnT w M)(b:MnB M):mkn M.cn<=4194305:=jK$ aSp t b
def aN3 {w:qw}(h:MnD w M)(f:MOk M):Stk (M.cn.z M.L) M.pc M.kz (M.cn.r M.L):=by
 have v:=f.cv h;let⟨b,d,_,a⟩:=iO f.c;exact aDo (C:=M.cn.z M.L) ⟨b,d⟩ v.g a h.f.2.2.1 h.r.2.2.1 rfl v.b
def aRt {A B C' p E l a1:Code}(f:f12.body=some (A.seq$ B.seq$ C'.seq$ p.seq$ E.seq$ (Code.block 0 l).seq a1)){K:Act->World->Prop}{w W X0:qw}{Y:Lyb}{b q n base aN:Nat}{a:Int}{R:Int×Int×Int×Cn}{C:Cn}{N:Mn}{L:List (PMod×Mb)}{β:Nat->Nat}{P:Bool}
 (hK:∀z X,Code.wp prog a1 (bodyPost prog f12$ MQo w R) z X->K z X) (HA:Zh (∀k:Nat,(k:Int)<a ↔ k<n)) (hN:n<=2000) (Z:C.oz.length<=1048576)
 (HY:P=true->Vmc C Y.L/\R=rnF Y.L n 0 C/\∀X,Turn (λj=>j<b) X0 X->Y.T X) (HN:P=false->R=rnI n C) (a8:Rs w W X0 Y b X0.heap.size q 0 C N base aN L β) {u0 u3 u9 az ap ay c0 bf b3 ai ao am b4 c8 aq ak bz ag bu aw bv bq bm an c7 c3 ba c1 bk bp af b6 bl ar bo b0 bd ah c4 cb be c5 b1 b7 b8 au ae c9 ca b9 ax b5 ad aj br bh bi av bn bj:Value}:
 Code.wp prog l (Exit.inBlock 0$ Exit.then K$ bodyPost prog f12$ MQo w R) ⟨#[u0,qI a,.pointer$ qP w.heap.size,u3,.pointer$ qP$ w.heap.size+1,.pointer$ qP$ w.heap.size+1+1,.pointer$ qP X0.heap.size,.bool P,.pointer$ qP q,u9,az,ap,ay,c0,bf,b3,ai,ao,am,b4,c8,aq,ak,bz,ag,bu,aw,bv,bq,bm,an,c7,c3,ba,c1,bk,bp,af,b6,bl,ar,bo,b0,bd,ah,c4,cb,be,c5,b1,b7,b8,au,ae,c9,ca,b9,ax,b5,ad,aj,br,bh,bi,av,bn,bj],[]⟩ W:=by
 injection f with f
 injection f with _ f
 injection f with _ f
 injection f with _ f
 injection f with _ f
 injection f with _ f
 injection f with t f
 injection t with _ t
 subst f;subst t;have HS:=zh a8;have HB:=zh λe=>(HY e).2.2;have HC:=zh λe=>xA (HY e).1 (HY e).2.1;replace HN:=zh HN;replace Z:=zh Z;clear a8 HY;dsimp only;go_loopw [] (λwr=>∃(k:Nat) (D:Cn) (N:Mn) (base aN:Nat) (L:List (PMod×Mb)) (β:Nat->Nat),k<=n/\Rs w wr X0 Y b X0.heap.size q k D N base aN L β/\(P=true->Vmc D Y.L/\R=rnF Y.L (n-k) k D)/\(P=false->k=0/\D=C/\R=rnI n D)) (λwr=>n-((wr.cell?$ qR q 2).map λv=>(intOf v).toNat).getD 0)
 .exact⟨0,C,N,base,aN,L,β,xC _,HS.o,λe=>HC.o e,λe=>⟨rfl,rfl,HN.o e⟩⟩
 clear HS HC HN;obtain⟨k,D,N,base,aN,L,β,hk,S,hy,hn⟩:=hrel;generalize wr=wo at *;have c2:=S.ko.e2;by_cases c:k<n
 rotate_left
 .have c':¬(k:Int)<a:=λh=>c$ (HA.o k).1 h;obtain rfl:k=n:=J
  have G:R=(3,0,(k:Int),D):=by
   cases P with
   | true=>rw[(hy rfl).2,Nat.sub_self];rfl
   | false=>obtain⟨rfl,rfl,e⟩:=hn rfl;rw[e];rfl
  have on:D.oz.length<=1048576:=by
   cases P with
   | true=>have t:=(hy rfl).1.v.b;unfold mok at t;simp at t;omega
   | false=>rw[(hn rfl).2.1];exact Z.o
  have g:=zh$ S.fin (aG brf) S.ko on;clear S hy hn on;subst G
  repeat(first|(go_step;exact qG rfl g.o)|go_values|go_skip|go_guarded|go_step|go_upon|go_back)
 have c':(k:Int)<a:=(HA.o k).2 c;have ab:=zh$ aWj wo;have I:=zh c2;have HS:=zh$ xA S$ xA hy hn;clear S hy hn;go_wp2_with fail
 apply ab.o.mono;rintro e w1 ⟨a4,N0,rfl⟩;unfold mnV;let⟨w2,ac,b2,U⟩:=nwb w1 (qA N0) 43;have S:=HS.o.1.bw$ yT a4 b2;have hg:=xM HS.o.1.T.size a4.size;have Q:=zh ac;have:qN w2 w.heap.size 14=qj N.tn:=S.k0.cell 14;have eT:N.tn=D.tn:=S.m.vs.2.2.2.2.2.2.2;have O:=zh$ xA S$ xA U HS.o.2;clear S ac a4 b2 U HS c2;cases P with
 | false=>
   obtain⟨rfl,rfl,G⟩:=O.o.2.2.2 rfl;obtain rfl:R=(2,2,1,D):=by rw[G];exact if_neg J
   have c2:=O.o.1.ko.z4;have cf:=O.o.1.ko.frozen;have g:=zh$ O.o.1.fin (i:=2) (j:=2) (u:=1) (((aK w2 q 2$ qI 1).trans$ aK _ q 0$ qI 2).trans$ aK _ q 1$ qI 2) (((O.o.1.ko.set 2$ qI 1).set 0$ qI 2).set 1$ qI 2) Z;clear G O I
   repeat(first|(go_step;exact qG rfl g.o)|rw[<-Q.o]|go_values|go_skip|go_guarded|go_step|go_upon|go_back|dsimp only|(simp only[Int.not_lt,Int.not_le]at *;go_simp))
 | true=>
   let⟨V,G⟩:=O.o.2.2.1 rfl;have S:=O.o.1;have U:=O.o.2.1;let⟨ok,eL⟩:=V.mok S.m;let⟨_,bb,_⟩:=V.v.cf;have t:=(cW V.v.k).2.1;have hp:=congrArg List.length S.m.e;have hl:=S.m.len;simp at hp;have nd:MnD w2 N:=S.m.mnd J;have h2:=V.v.s.1;have h3:=(cW V.v.k).1;unfold cfo at h3;simp at h3;have h4:=V.h.1;have h5:=V.cd;have mS:MnS w2 N L:=S.m.mns V.v.g J V.v.b J J;have on:D.oz.length<=1048576:=by have t:=V.v.b;unfold mok at t;simp at t;omega
   have e1:n-k=n-(k+1)+1:=J
   rw[e1,rnF]at G;have:IntKind.i64.wrap ((k:Int)+1)=(k:Int)+1:=by rw[xP,xQ _ J]
   have c2:=S.ko.z4;have cf:=S.ko.frozen;by_cases ht:D.tn<1000000000
   rotate_left
   .have et:tkR D Y.L=(5,2,D):=by unfold tkR;rw[if_neg ht]
    rw[et]at G;obtain rfl:R=(2,2,(k:Int)+1,D):=G;have bg:¬N.tn<1000000000:=J
    have g:=zh$ S.fin (i:=2) (j:=2) (u:=(k:Int)+1) (((aK w2 q 2$ qI$ (k:Int)+1).trans$ aK _ q 0$ qI 2).trans$ aK _ q 1$ qI 2) (((S.ko.set 2$ qI$ (k:Int)+1).set 0$ qI 2).set 1$ qI 2) on;clear O V S U ok eL nd mS t h2 h3 h4 h5 hp hl eT et I
    repeat(first|(go_step;exact qG rfl g.o)|rw[<-Q.o]|go_values|go_skip|go_guarded|go_step|go_upon|go_back|dsimp only|(simp only[Int.not_lt,Int.not_le]at *;go_simp))
   have YT:Y.T w2:=HB.o rfl w2 S.T;have H:=aI8 N L Y w2 nd mS ok YT eL.symm J$ aN3 nd ok;have K:Stk (N.cn.z N.L) N.cn.pc N.cn.kz (N.cn.r N.L):=aN3 nd ok;rw[S.m.cn,eL]at H K;have V':=V.tk YT K;generalize tkR D Y.L=r at *;obtain⟨d,x,p⟩:=r;dsimp only at V' G;have H:=zh H;have s:=zh$ xA S$ xA U$ xA V' G;have bg:N.tn<1000000000:=J
   have bc:=S.k0.mc;have ml:=S.kl.z6;clear V S U ok eL nd mS t h2 h3 h4 h5 hp hl eT YT K V' G on c2 cf ht O HB ab bb;go_wp2_with (rw[<-Q.o])
   apply H.o.mono;rintro e w3 ⟨a3,N3,y,M,L3,a6,rfl,aa,a9⟩;unfold mnV;let⟨S,U,V',G⟩:=s.o;have k3:=U.bw a3;have S':=S.nxt a3 aa a9 k3 hg;have S3:=S.bw a3;obtain⟨X5,a0⟩:=aO$ stM w3 w1.heap.size N3;obtain⟨X6,a2⟩:=aO$ stM X5 w.heap.size N3;have T5:Turn (λj=>j=w1.heap.size) w3 X5:=by rw[a0];exact pY _ _ _
   have T6:Turn (λj=>j=w.heap.size) X5 X6:=by rw[a2];exact pY _ _ _
   have ho:=S.o;have k5:=aC T5 S3.k0 J;have o6:=(S3.ko.kp k3 T5).kp k5 T6;rw[<-a0,<-a2]at S';have n5:Blk X5 w1.heap.size (qA N3) 43:=by rw[a0];exact vT k3 N3
   have:=k3.mc;have:=k3.frozen;have:=n5.mc;have:=k5.mc;have:=k5.frozen;have:=o6.z4;have:=o6.frozen;unfold stM sH at a0 a2;have a5:=zh a0;have a7:=zh a2;have on:p.oz.length<=1048576:=by have t:=V'.v.b;unfold mok at t;simp at t;omega
   have s:=zh$ xA S'$ xA V'$ xA G on;clear S U V' G k3 S' S3 a0 a2 T5 T6 ho k5 o6 n5 a3 aa a9 on H Q bc ml;by_cases d1:d=1
   .subst d1;have g:=zh$ show Rtl w _ _ 1 x ((k:Int)+1) p N3 y M L3 a6 from s.o.1.fin (((aK _ q 0$ qI 1)).trans$ aK _ q 1$ qI x) ((s.o.1.ko.set 0$ qI 1).set 1$ qI x) s.o.2.2.2;obtain rfl:R=(1,x,(k:Int)+1,p):=s.o.2.2.1.trans$ if_pos rfl;clear s I
    repeat(first|(go_step;exact qG rfl g.o)|rw[<-a5.o]|rw[<-a7.o]|go_values|go_skip|go_guarded|go_step|go_upon|go_back|dsimp only|(simp only[Int.not_lt,Int.not_le]at *;go_simp))
   by_cases d5:d=5
   .subst d5;have g:=zh$ show Rtl w _ _ 2 x ((k:Int)+1) p N3 y M L3 a6 from s.o.1.fin (((aK _ q 0$ qI 2)).trans$ aK _ q 1$ qI x) ((s.o.1.ko.set 0$ qI 2).set 1$ qI x) s.o.2.2.2;obtain rfl:R=(2,x,(k:Int)+1,p):=s.o.2.2.1.trans$ (if_neg Ja).trans$ if_pos rfl;clear s I
    repeat(first|(go_step;exact qG rfl g.o)|rw[<-a5.o]|rw[<-a7.o]|go_values|go_skip|go_guarded|go_step|go_upon|go_back|dsimp only|(simp only[Int.not_lt,Int.not_le]at *;go_simp))
   have:(d==1)=false:=by simp[d1]
   have:(d==5)=false:=by simp[d5]
   have HD:=zh$ xA d1 d5;clear d1 d5
   repeat(first|rw[<-a5.o]|rw[<-a7.o]|go_values|go_skip|go_guarded|go_step|go_upon|go_back|dsimp only|(simp only[Int.not_lt,Int.not_le]at *;go_simp))
   go_roundw
   .exact⟨k+1,c,p,⟨N3,y,M,L3,a6,s.o.1⟩,s.o.2.1,s.o.2.2.1.trans$ (if_neg HD.o.1).trans$ if_neg HD.o.2⟩
   .rw[I.o];simp[intOf];omega
def aOm (M Ls f w)(h:MnD w M)(H:MnS w M Ls)(hf:wfi f):qC 12 #[.agg$ qA M,qI f] w (MQo w$ rnX M f):=by
 let⟨U,g⟩:=aO$ ((w.alloc$ .cells (qA M) 43).alloc$ .cells qZ 43).alloc$ .cells zOc 51;have C:qY w U:=by rw[g];go_grown
 have eU:U.heap.size=w.heap.size+3:=by rw[g];simp
 have kM:Blk U w.heap.size (qA M) 43:=by rw[g];exact((Blk.new _ _ _).alloc _).alloc _
 have kR:Blk U (w.heap.size+1) z15 43:=by rw[g];exact(Blk.nw).alloc _
 have kO:Blk U (w.heap.size+1+1) zOc 51:=by rw[g];exact .nw
 have I:=zh$ aG1 M U$ h.bw C;have HK:=zb U λX Z=>show Blk X w.heap.size (qA M) 43/\Blk X (w.heap.size+1) z15 43/\Blk X (w.heap.size+1+1) zOc 51/\MnS X M Ls/\qY w X from⟨kM.bw Z,kR.bw Z,kO.bw Z,(H.bw C).bw Z,yT C Z⟩;have HU:=zh g;have HE:=zh eU;have x0:=kM.mc;have hN:rnN f<=2000:=by unfold rnN;omega
 have HN:=zh$ show(2000<f->∀k:Nat,(k:Int)<2000 ↔ k<rnN f)/\(f<=2000->∀k:Nat,(k:Int)<f ↔ k<rnN f)from⟨λc k=>by unfold rnN;omega,λc k=>by unfold rnN;omega⟩;generalize hq:rnN f=n at *;have HQ:=zh (show rnX M f=@ite _ (MOk M) (aVk M) (rnF M.L n 0 M.cn) (rnI n M.cn)by unfold rnX;rw[hq]);generalize rnX M f=R at *;have HH:=zh h;have a3:=zh (show M.oz.length<=1048576 by have:=H.z;have:=bC H.o;omega);clear g C kM kR kO h H hq hf eU
 delta qC;go_in
 by_cases c:2000<f
 focus
  have q:=zh$ HN.o.1 c;go_wp2_with (rw[<-HU.o])
  generalize (2000:Int)=a at q⊢
 rotate_left
 focus
  have q:=zh$ HN.o.2 J;go_wp2_with (rw[<-HU.o])
  obtain⟨a,ha⟩:=aO f;rw[<-ha]at q⊢;clear ha
 all_goals
  clear c HN x0 HU;apply I.o.mono;rintro e D ⟨t,y0,n0,P,i1,y2,n2,S,i3,i4,y5,n5,W,bb,rfl,G,u⟩;let⟨X1,a0,b1,kl⟩:=nwb D #[qS y0 n0 P,qI i1,qS y2 n2 S,qI i3,qI i4,qS y5 n5 W] 65;have B:=zh$ yT t b1;let⟨d,k1,k2,mS,i⟩:=HK.o X1 B;have O:=zh$ bD M Ls X1 mS;have Q:=zh a0;have m0:=d.mc;have A:=zh$ xA kl$ xA G u;have eX:X1.heap.size=D.heap.size+1:=by rw[a0];simp
  have hz:=t.size;have a6:=zh$ xA eX hz;clear t a0 kl G u d k1 k2 mS i b1 I eX hz;go_wp2_with (rw[<-Q.o])
  apply O.mono;rintro e X2 ⟨l,N,a9,aN,L,β,rfl,hm,a5,E⟩;unfold mnV;let⟨d,k1,k2,mS,i⟩:=HK.o X2$ yT B l;obtain⟨X3,p⟩:=aO$ stM X2 w.heap.size N;have s:Turn (λj=>j=w.heap.size) X2 X3:=by rw[p];exact pY _ _ _
  have k3:Blk X3 w.heap.size (qA N) 43:=by rw[p];exact vT d N
  have m3:=hm.tm$ dH d s;let⟨X4,a1,b,ko⟩:=nwb X3 #[qI 3,qI 0,qI 0,qS none 0 0] 51
  have HR:=zh (show ∀Y:Lyb,Y.v=#[qS y0 n0 P,qI i1,qS y2 n2 S,qI i3,qI i4,qS y5 n5 W]->Rs w X4 D Y U.heap.size D.heap.size X3.heap.size 0 M.cn N a9 aN L β from λY e=>by
   obtain⟨e1,e2⟩:=a6.o;have e3:=HE.o;have:=l.size;have h3:=s.size;refine⟨(aF i s (λj hj=>J) i.size).trans$ b.mono$ xM i.size h3,k3.bw b,(aC s k1 J).bw b,(aC s k2 J).bw b,?_,ko,m3.bw b,?_,e3,e2,J,J,J,.inl$ xM E h3⟩
   .rw[e];exact(aC s (A.o.1.bw l) J).bw b
   .exact(((aG$ Q.o ▸ bal).trans$ aG l).trans$ s.mono λj hj=>J).trans (aG b))
  unfold stM sH at p;have f0:=d.frozen;have m1:=d.mc;have x:=zh p;have V:=zh a1;clear p a1 s k3 m3 d k1 k2 mS i l hm a5 E b ko m0 O;go_wp2_with (first|rw[<-x.o]|rw[<-V.o])
  obtain⟨Y,eY,hY⟩:∃Y:Lyb,Y.v=#[qS y0 n0 P,qI i1,qS y2 n2 S,qI i3,qI i4,qS y5 n5 W]/\(bb=true->Y.L=M.L/\∀X,Turn (λj=>j<U.heap.size) D X->Y.T X):=by
   cases bb with
   | true=>
     obtain⟨a2,c0,xs,a4,c2,a7,c5,ts,e,hl⟩:=A.o.2.2 rfl;exact⟨⟨M.L,a2,c0,xs,a4,c2,a7,c5,ts⟩,e.symm,λ_=>⟨rfl,hl⟩⟩
   | false=>exact⟨⟨⟨[],i1,List.replicate n2 0,i3,i4,[]⟩,y0,P,List.replicate n0 zPB,y2,S,y5,W,List.replicate n5 ([],none,0)⟩,Jb,λh=>by cases h⟩
  have HY:=zh hY;have a8:=zh$ HR.o Y eY;have y:=zh A.o.2.1;clear HR x V A eY hY f0 m1;rename_i K hK;refine aRt rfl hK q hN a3.o (λe=>?_) (λe=>?_) a8.o
  .have ok:=y.o.1 e;have h1:=(HY.o e).1;rw[h1];exact⟨ok.vmc HH,HQ.o.trans$ if_pos ok,(HY.o e).2⟩
  .have ok:¬MOk M:=λk=>by rw[y.o.2 k]at e;cases e
   exact HQ.o.trans$ if_neg ok
def aIa {α:Type}{f:α->Nat}{b:Nat}:∀{l:List α},(∀x∈l,f x<=b)->(l.map f).sum<=l.length*b
 | [],_=>Jb
 | x::l,h=>by
   have:=h x Jb;have:=aIa (f:=f) (b:=b) (l:=l) (λy s=>h y (by simp[s]));simp only[List.map_cons,List.sum_cons,List.length_cons,Nat.succ_mul];omega
theorem aUt {P:PMod}(h:fY P=0):szc P<=1050:=by
 let⟨v1,v2,v3,v4,g,_,_,d⟩:=cJ h;have V:=jZ (by simp[nM]) h
 have:=aIa (f:=List.length) (b:=64) (l:=P.bl) (λx hx=>by
  let⟨k,a,e⟩:=List.getElem_of_mem hx;have:=d k a
  grind)
 have:=V.r;unfold szc;omega
theorem aRg {L:Lay}(h:Vmc C L):mkn C<=4194305:=by
 let⟨_,i,g,d,_⟩:=cW h.v.k
 have:=aIa (f:=szc) (b:=1050) (l:=C.ps) (λx hx=>by
  let⟨k,a,e⟩:=List.getElem_of_mem hx;have:=aUt$ d k a
  grind)
 have b:=h.v.b;unfold mok at b;simp at b;have:=h.v.g;have:=h.h.1;have:=h.cd;have:=h.v.s.1;have s:=(cW h.v.k).1;unfold cfo at s;simp at s;unfold mkn;have:=Nat.mul_le_mul_right 1050 g;omega
def aLj (C:Cn)(L:Lay)(m b t):(dG C L m b t).ps=C.ps:=by
 unfold dG;split<;>rfl
def aH7 (C:Cn)(L:Lay):(tkR C L).2.2.ps=C.ps:=by
 have c:∀N:Cn,∀d m b t,(cld N L d m b t).2.2.ps=N.ps:=λN d m b t=>by
  unfold cld;split
  .exact aLj _ _ _ _ _
  .rfl
 unfold tkR tkF;generalize f:C.n L=N;have e:N.ps=C.ps:=by rw[<-f];rfl
 split
 .split
  .rfl
  .rw[<-e];unfold flw
   repeat' split
   all_goals first
    | with_reducible exact c _ _ _ _ _
    | exact aLj _ _ _ _ _
    | rfl
 .rfl
def aU8 (L:Lay)(n:Nat):∀u C,(rnF L n u C).2.2.2.ps=C.ps:=by
 induction n with
 | zero=>exact λ_ _=>rfl
 | succ n ih=>
   intro u C;rw[rnF];split
   .exact aH7 C L
   .split
    .exact aH7 C L
    .exact(ih _ _).trans (aH7 C L)
def aU6 (M:Mn)(f):(rnX M f).2.2.2.ps=aI M.ms:=by
 unfold rnX;split
 .exact aU8 _ _ _ _
 .unfold rnI;split<;>rfl
def aU7 (e:aI ms'=aI M.ms)(f):rnX (M.cp g0 g1 g2 g3 g4 g5 g6 ms') f=rnX M f:=by
 have l:(M.cp g0 g1 g2 g3 g4 g5 g6 ms').L=M.L:=by unfold Mn.L;show lkL (aI ms') M.cs M.cw M.ck M.cd=_;rw[e]
 unfold rnX;by_cases c:MOk M
 .rw[if_pos c,if_pos ((aIx e).2 c),aUh e,l]
 .rw[if_neg c,if_neg (λk=>c$ (aIx e).1 k),aUh e]
def RO (C:Cn)(lo:Nat)(N:Mn)(v:Value)(W:qw):Prop:=∃base aN L β X,MxO W base aN C N L β/\MxO X base aN C N L β/\lo<=base/\lo<=X.heap.size/\OB W X.heap.size v C.oz
def RO.rx {W:qw}(h:RO C lo N v W):RX C lo N W:=
 let⟨a,aN,L,d,_,h,_,b,_⟩:=h
 ⟨a,aN,L,d,h,b⟩
def RO.turn {W W':qw}(h:RO C lo N v W)(t:Turn S W W')(hS:∀j,S j->j<lo):RO C lo N v W':=
 let⟨b,aN,L,d,X,h,k,a,hx,o⟩:=h
 ⟨b,aN,L,d,X,h.turn t λj f=>Nat.lt_of_lt_of_le (hS j f) a,k,a,hx,aP t o (λj f s=>by have:=hS j s;have:=(o.lt j f).1;omega)⟩
def RO.bw {W W':qw}(h:RO C lo N v W)(f:qY W W'):RO C lo N v W':=
 let⟨a,aN,L,d,X,h,k,b,hx,o⟩:=h
 ⟨a,aN,L,d,X,h.bw f,k,b,hx,o.bw f⟩
def RO.bs {a:qO}{W:qw}(h:RO C lo N (qS a n c) W):BS W a n c C.oz:=
 let⟨_,_,_,_,_,_,_,_,_,o⟩:=h
 o.bs
def aOo {F:Nat}{G:Bool}{f:Int}(D:∀(M:Mn)(O:List (PMod×Mb))(w:qw),MnD w M->MnS w M O->qC F #[.agg$ qA M,qI f] w λe b=>MQo w (rnX M f) e b/\(G=true->MOk M->∃L,Vmc (rnX M f).2.2.2 L)){y:qw}(l:MnT y M)(t:MnB M)(P X bs d i j k g4 p A C)(r:MnR X bs M d i j k g4 p A C)(u:P<=X.heap.size):qC F #[.agg$ qK M d i j k g4 p A,qI f] X (λe b=>qY X b/\∃(N:Mn) (a:qO) (n c:Nat),e=.returned (.tuple #[.agg$ qA N,.agg #[qI (rnX M f).1,qI (rnX M f).2.1,qI (rnX M f).2.2.1,qS a n c]])/\RO (rnX M f).2.2.2 P N (qS a n c) b/\(G=true->mkn (rnX M f).2.2.2<=4194305)):=by
 have e:=aOr r.m r.n l.m.1;apply(D (M.cp d i j k g4 p A C) (C.map Md.mb) X (r.mnd l t)$ r.mns l t).mono;rintro V b ⟨⟨B,N,S,aN,L,W,Q,a,n,c,rfl,H,s,U,E,I⟩,K⟩;rw[aU7 e]at *;refine⟨B,N,a,n,c,rfl,⟨S,aN,L,W,Q,H,s,xM u U,xM u E,I⟩,λg=>?_⟩;by_cases x:MOk M
 .have⟨_,v⟩:=K g$ (aIx e).2 x;exact aRg v
 .have q:(rnX M f).2.2.2=M.cn:=by
   unfold rnX;rw[if_neg x];unfold rnI;split<;>rfl
  rw[q];exact aVm l t
abbrev qO4 (i j k:Int)(a:qO)(n c:Nat):Array Value:=#[qI i,qI j,qI k,qS a n c]
def jD (i j k:Int)(a b n c m d x w)(h:BS w a n c x)(u:BS w b m d x):qC 14 #[.agg$ qO4 i j k a n c,.agg$ qO4 i j k b m d] w (qB w$ .bool true):=by
 let⟨U,g⟩:=aO$ (w.alloc$ .cells (qO4 i j k a n c) 51).alloc$ .cells (qO4 i j k b m d) 51;have f:qY w U:=by rw[g];go_grown
 have s:Blk U w.heap.size (qO4 i j k a n c) 51:=by rw[g];exact(Blk.new _ _ _).alloc _
 have t:Blk U (w.heap.size+1) (qO4 i j k b m d) 51:=by rw[g];exact .nw
 have:=s.z4;have:=t.z4;have y:=zh$ gQ a b n c m d x x U (h.bw f)$ u.bw f;rw[show decide (x=x)=true from Jb]at y;have:(i !=i)=false:=Jb
 have:(j !=j)=false:=Jb
 have:(k !=k)=false:=Jb
 have D:=zh g;have E:=zh f;clear s t g f h u
 delta qC;go_in
 go_wp2_with (rw[<-D.o])
 apply y.o.mono;rintro e W ⟨rfl,l⟩;have B:=zh$ yT E l;clear l;go_wp2;go_ret;exact⟨rfl,B.o⟩
def uR (i j k:Int)(a n c base x)(q:Nat)(w)(h:OB w base (qS a n c) x)(hn:n<=4194305)(y:q<=4194305):qC 15 #[.agg$ qO4 i j k a n c,qI q] w λe w'=>e=.returned (qI ((q+n:Nat):Int))/\OB w' base (qS a n c) (cQ q n)/\Turn (λj=>(qS a n c:Value).ownBlock=some j) w w':=by
 have f:qY w (w.alloc$ .cells (qO4 i j k a n c) 51):=bal;have s:=zh$ eH a n c base x q _$ h.bw f;have u:=zh$ aG f (S:=λj=>(qS a n c:Value).ownBlock=some j);clear h
 delta qC;go_in
 go_wp2_with fail
 apply s.o.mono;rintro e W ⟨rfl,p,t⟩;have l:=zh$ xA p$ u.o.trans t;clear p t;go_wp2;go_ret;exact⟨rfl,l.o⟩
def uY (i j k:Int)(a n c)(q:Nat)(w)(h:BS w a n c (cQ q n))(hn:n<=4194305)(u:q<=4194305):qC 16 #[.agg$ qO4 i j k a n c,qI q] w (qB w$ qI ((q+n:Nat):Int)):=by
 have f:qY w (w.alloc$ .cells (qO4 i j k a n c) 51):=bal;have l:=zh$ eJ a n c q _$ h.bw f;have s:=zh f;have:¬((q+n:Nat):Int)<0:=J
 clear h f
 delta qC;go_in
 go_wp2_with fail
 apply l.o.mono;rintro e W ⟨rfl,rfl⟩;go_wp2;go_ret;exact⟨rfl,s.o⟩
