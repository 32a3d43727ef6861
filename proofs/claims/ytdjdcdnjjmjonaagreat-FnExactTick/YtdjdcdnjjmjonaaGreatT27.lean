import Derived.Test.YtdjdcdnjjmjonaaGreatT24
set_option linter.all false
set_option maxHeartbeats 8000000
namespace Go.Proofs.YtdjdcdnjjmjonaaGreat
open Go.RowKit
open Go.Proofs.Tryz
set_option maxRecDepth 100000
variable {C N:Cn}{L:Lay}{M:Mn}{S S':Nat->Prop}{Y:Lyb}{base c g g0 g1 g2 g3 g4 g5 g6 k:Nat}{ms':List Md}{n:Int}
def aVv {a:Act}{W:qw}{G:Nat}{d:Option Tmp}{w:TypeId}{p:String}{y:Array _}{x:Option _}{v0 v1 v2 v3 v4 s u t q l j b i f e:Value}(kb:Blk W G #[v0,v1,v2,v3,v4,s,u,t,q,l,j,b,i,f,e] 34)(h:a.tmps[k]?.getD undef=.pointer (qP G)):(execOp a.eval { dst:=d,op:=Op.load 34$ Operand.tmp k,type:=w,pos:=p,after:=y,guard:=x }).run prog W=.ok (.value$ .agg #[v0,v1,v2,v3,v4,s,u,t,q,l,j,b,i,f,e]) W:=by
 have:=kb.mc;go_simp
def aOr (e:aF ms'=aF M.ms):MOk (M.cp g0 g1 g2 g3 g4 g5 g6 ms') ↔ MOk M:=by
 have a:(M.cp g0 g1 g2 g3 g4 g5 g6 ms').L=M.L:=by unfold Mn.L;show lkL (aF ms') M.cs M.cw M.ck M.cd=_;rw[e]
 constructor
 .rintro⟨l,p,c,b,f,r,t,s,n,h⟩;rw[a]at p f r s;simp only[Mn.cp]at l p c b f r t s n h;rw[e]at l p f s n h;exact⟨l,p,c,b,f,r,t,s,n,h⟩
 .rintro⟨l,p,c,b,f,r,t,s,n,h⟩;rw[<-a]at p f r s;rw[<-e]at l p f s n h;exact⟨l,p,c,b,f,r,t,s,n,h⟩
def aT1 {w W u:qw}{base':Nat}{d j e p q f l:Nat}{a b:List Md}(t:MnT w M)(h:MnR W base M g0 g1 g2 g3 g4 g5 g6 a)(x:MnR u base' M d j e p q f l b)(s:∀i,i<M.mn->aQh (a.getD i aL) (b.getD i aL)):Sam (M.cp g0 g1 g2 g3 g4 g5 g6 a) (M.cp d j e p q f l b):=
 ⟨⟨rfl,rfl,rfl,rfl,rfl,rfl,rfl,rfl⟩,⟨rfl,rfl,rfl,rfl,rfl,rfl,rfl⟩,⟨rfl,rfl,rfl,rfl,rfl,rfl⟩,s⟩
def sC {α:Type}{f:α->List Value}{W:qw}{o n:Nat}{ys:List α}(h:Srd f W (some$ qR g o) n c ys)(c'):Srd f W (some$ qR g o) ys.length c' ys:=⟨rfl,.inr (by obtain⟨_,⟨e,_⟩|q⟩:=h;cases e;exact q)⟩
def Md.mb (m:Md):PMod×Mb:=(m.pm,⟨m.ta,m.tc,m.ba,m.bc,m.bl,m.da,m.dc,m.ra,m.rc,m.ia,m.ic,m.ea,m.ec⟩)
def aP1 {m a:Md}{W:qw}(hd:a.md W)(h:fX c m a W):mdP a.mb=a/\Msr W a.mb/\(a.size<=1048576->PmG a.mb.1):=by
 obtain⟨P,D,Q,R,S,U,g,rfl,_,_,_,_,_,_,V,Y,Z,r3,r5,r6,r7⟩:=h;obtain⟨H,y,s,t,hs,x,hi,w⟩:=hd
 have i:∀k,k<(reb g m.bl).length->(reb g m.bl)[k]?=some (qP$ g.getD k 0,(m.bl.getD k zB).2.2.2.length,(m.bl.getD k zB).2.1,(m.bl.getD k zB).2.2.2)/\qN W D k=some (.slice (qP$ g.getD k 0) (m.bl.getD k zB).2.2.2.length (m.bl.getD k zB).2.1)/\IS W (qP$ g.getD k 0) (m.bl.getD k zB).2.1 (m.bl.getD k zB).2.1 (m.bl.getD k zB).2.2.2:=λk d=>by
  have f:k<m.bl.length:=by rw[pU]at d;exact d
  obtain⟨F,N,A,C,O⟩:=s;dsimp only at F A C;have q:=C k J;let⟨b,X,e,hc⟩:=A J;cases e
  have c:=hc k J;rw[jZ _ _ _ f]at q c;rw[Nat.zero_add]at c;rw[q.1];refine⟨?_,c,q⟩;have:=jZ g m.bl k f
  grind
 refine⟨?_,⟨sC (aIp y) _,λk d=>?_,rfl,sC (aUt t) _,sC (aIp x) _,sC (aTw (q:=z6) hi) _,sC (aUo w) _⟩,λE=>?_⟩
 .simp only[mdP,Md.mb,Md.pm];rw[y.1,s.1,t.1,x.1,hi.1,w.1]
 .have⟨I,K,M⟩:=i k d;exact⟨D,_,_,_,rfl,I,K,sC (aIp M) _⟩
 .unfold Md.size dL at E;dsimp only at E;have e1:=y.1;have e2:=s.1;have e3:=t.1;have e4:=x.1;have e5:=hi.1;have e6:=w.1;dsimp only at e1 e2 e3 e4 e5 e6;refine⟨H,⟨by show m.tz.length<=_;omega,y.2.2.1⟩,⟨by show(List.map _$ reb g m.bl).length<=_;rw[xH];omega,λl p=>?_⟩,⟨by show m.dz.length<=_;omega,t.2.2.1⟩,hs,⟨by show m.rz.length<=_;omega,x.2.2.1⟩,⟨by show m.ss.length<=_;omega,hi.2.2.1⟩,⟨by show m.es.length<=_;omega,w.2.2.1⟩⟩;obtain⟨B,G,rfl⟩:=List.mem_map.1$ show l∈(reb g m.bl).map (λB=>B.2.2.2)from p;obtain⟨k,d,rfl⟩:=List.mem_iff_getElem.1 G;have q:IS W ((reb g m.bl).getD k zB).1 ((reb g m.bl).getD k zB).2.1 ((reb g m.bl).getD k zB).2.2.1 ((reb g m.bl).getD k zB).2.2.2:=s.2.2.2.1 k (by grind);rw[xB,xN d,Option.getD_some]at q;have u:=aCm (λj=>((reb g m.bl).getD j zB).2.1) m.bn k J;rw[xB,xN d,Option.getD_some]at u;exact⟨by grind,q.2.2.1⟩
def aUg {W:qw}{n:Nat}{zs:qi}(h:Row8 W g zs)(b:BS W (qP g) n n zs):OB W 0 (qS (qP g) n n) zs:=by
 obtain rfl:=b.1;exact⟨⟨Jb,.inr ⟨g,zs.length,_,rfl,xC _,h,aO,b.2.1,Jb,by simp[xG]⟩⟩,b.2.2.1⟩
def MnR.mns {w W:qw}(h:MnR W base M g0 g1 g2 g3 g4 g5 g6 ms')(t:MnT w M)(b:MnB M):MnS W (M.cp g0 g1 g2 g3 g4 g5 g6 ms') (ms'.map Md.mb):=by
 have D:=h.mnd t b
 have d:∀i,(hi:i<ms'.length)->mdP (ms'.getD i aL).mb=ms'.getD i aL/\Msr W (ms'.getD i aL).mb/\PmG (ms'.getD i aL).mb.1:=λi hi=>by
  have:=h.n;let⟨e,f,g⟩:=aP1 (D.m.d i (by show i<M.mn;omega)) (h.m.2.2 i hi).2;refine⟨e,f,g ?_⟩;have:=aCd (h.m.2.2 i hi).2 (t.m.2.2.2.1 i J).b.1;have:=b.m i J;show(ms'.getD i aL).size<=_;omega
 have a:∀(i:Nat)(x:PMod×Mb),(ms'.map Md.mb)[i]?=some x->i<ms'.length/\x=(ms'.getD i aL).mb:=λi x hx=>by
  grind
 refine⟨⟨⟨g0,rfl⟩,g1,0,rfl⟩,⟨λi x hx=>?_,λi x hx=>?_⟩,?_,?_,D.k,aUg h.f D.f,aUg h.r D.r,aUg h.o D.o,aOg h.l,aOg h.h,⟨b.n,b.k,b.b,b.l,b.h⟩⟩
 .obtain⟨hi,rfl⟩:=a i x hx;refine⟨g0,rfl,?_⟩;rw[(d i hi).1];exact(h.m.2.2 i hi).1
 .grind
 .rw[xH];exact h.n
 .rw[List.map_map];rfl
def aP2 (e:aF ms'=aF M.ms):(M.cp g0 g1 g2 g3 g4 g5 g6 ms').cn=M.cn:=by
 unfold Mn.cn Mn.cp;rw[e]
def sD {W b:qw}{a:qO}{n sz:Nat}(h:Sl S W a n sz)(d:Sl S' b a n sz):Sl (λj=>S j/\S' j) W a n sz:=λi=>by
 let⟨g,o,k,t,e,hs,l,p⟩:=h i;let⟨s,u,_,_,f,q,_,_⟩:=d i;rw[e]at f;cases f
 exact⟨g,o,k,t,e,⟨hs,q⟩,l,p⟩
def aRs {W d:qw}{n:Nat}{ms:List Md}{F:Nat->Nat->Rw3}(h:Mrs S W c n ms F)(a:Mrs S' d c n ms F):Mrs (λj=>S j/\S' j) W c n ms F:=
 ⟨λq=>h.nc q.1,h.head,λi hi=>⟨sD (h.rows i hi).t (a.rows i hi).t,⟨λp=>by obtain⟨g,o,e,t,f,hs,k,l⟩:=(h.rows i hi).b.head p;exact⟨g,o,e,t,f,λq=>hs q.1,k,l⟩,λj b=>sD ((h.rows i hi).b.rows j b)$ (a.rows i hi).b.rows j b⟩,sD (h.rows i hi).d (a.rows i hi).d,sD (h.rows i hi).r (a.rows i hi).r,sD (h.rows i hi).i (a.rows i hi).i,sD (h.rows i hi).e (a.rows i hi).e,(h.rows i hi).g⟩⟩
def aJk (M base Y g C S g4 g5 N a0 w0 W6 W)(h:MnR W6 base M Y g C S g4 g5 N a0)(t:MnT w0 M)(b:MnB M)(Q:qY W6 W):
 qC 10 #[.agg$ qK M Y g C S g4 g5 N,qI 1] W λe w'=>∃k:Nat,e=.returned (qI k)/\Turn (λj=>base<=j/\j<W6.heap.size) W w'/\k<=20000000:=by
 let⟨V,hV,bV,kV⟩:=nwb W (qK M Y g C S g4 g5 N) 43;have R:=yT Q bV;have d:=h.bw R;let⟨W',hx,a1⟩:=h.x;let⟨q0,q1,q2,q3,q4,q5,q6⟩:=h.b;have U:=(h.h.lt N rfl).2;have hs:=Q.size;have X:=(aRs (aFg h.m h.n t.m)$ aFg hx h.n t.m).kept$ Mkd.bw R;have c3:=aLk h.m h.n t.m;have bs:=b.s;let⟨_,z2,z3⟩:=aNw h.m h.n t.m J;have P:=zh$ wO _ Y M.mn M.mn 1 a0 _ V X J z2 z3 b.n;generalize upS (jD a0 λi=>bnF$ a0.getD i aL) M.mn=u at P c3;have I:OI V base (qS (qP g) M.kn M.kn) M.kz:=by have e:=t.k.1;have:=RowI.oi (base:=base) d.k J (jK t.k.2.1) t.k.2.2.1;rw[e]at this;exact this
 have F:cB V base (qS (qP C) M.fn M.fn) (qS (qP S) M.rn M.rn) (qS (qP g4) M.on M.on) M.fz M.rz M.oz:=⟨nT d.f t.f.1 J (jK t.f.2.1) t.f.2.2.1,nT d.r t.r.1 J (jK t.r.2.1) t.r.2.2.1,nT d.o t.o.1 J (jK t.o.2.1) t.o.2.2.1,λk j a f=>by simp[Value.ownBlock]at a f;omega,λk j a f=>by simp[Value.ownBlock]at a f;omega,λk j a f=>by simp[Value.ownBlock]at a f;omega⟩;have w:=d.l;have p:=d.h;have H:=zh$ xA q0$ xA q1$ xA q2$ xA q3$ xA q4$ xA q5$ xA q6$ xA U hs;have O:=zh a1;have HZ:=zh$ xA (show Turn (λj=>base<=j/\j<W6.heap.size) W V/\Blk V W.heap.size (qK M Y g C S g4 g5 N) 43 from⟨aI bV,kV⟩)$ xA I$ xA F$ xA w p;have Z:=zh hV;have K:=kV.mc
 delta qC;go_in
 go_wp2_with (rw[<-Z.o])
 apply P.mono;rintro e A ⟨rfl,mk⟩
 have D:=zh (show(Turn (λj=>base<=j/\j<W6.heap.size) W A/\Blk A W.heap.size (qK M Y g C S g4 g5 N) 43)/\(OI A base (qS (qP g) M.kn M.kn) M.kz)/\(cB A base (qS (qP C) M.fn M.fn) (qS (qP S) M.rn M.rn) (qS (qP g4) M.on M.on) M.fz M.rz M.oz)/\(OG 132 4 cM A base (qS (qP g5) M.ln M.ln) M.lz)/\OG 136 4 bM A base (qS (qP N) M.hn M.hn) M.hz by
  obtain⟨⟨T0,k0⟩,I,F,w,p⟩:=HZ;have q:=H;have q':=O;have T:=mk.turn;have l:∀k,g<=k->¬((Sm W6 Y k/\Sm W' Y k)\/k=Y):=λk a s=>by rcases s with⟨_,s⟩|s;exact absurd s.2.1 J;omega
  exact⟨⟨T0.trans (T.mono (λj f=>by rcases f with⟨s,_⟩|s;exact⟨jK s.1,s.2.1⟩;exact⟨J,J⟩)),aD T k0$ l _ J⟩,aX T I (λk a=>l k (by simp only[Value.ownBlock,Option.some.injEq]at a;omega)),dX F T (λj f=>l j (by rcases f with a|a|a<;>(simp only[Value.ownBlock,Option.some.injEq]at a;omega))),w.kept T (λk a=>l k (by simp only[Value.ownBlock,Option.some.injEq]at a;omega)),p.kept T (λk a=>l k (by simp only[Value.ownBlock,Option.some.injEq]at a;omega))⟩)
 have C1:=zh$ wQ M.pc (qP g) M.kn M.kn base _ (1+u) A D.2.1 J J;have K:=D.1.2.mc;go_wp2_with fail
 apply C1.mono;rintro e E ⟨rfl,_,T⟩
 have x:=zh (show(Turn (λj=>base<=j/\j<W6.heap.size) W E/\Blk E W.heap.size (qK M Y g C S g4 g5 N) 43)/\(cB E base (qS (qP C) M.fn M.fn) (qS (qP S) M.rn M.rn) (qS (qP g4) M.on M.on) M.fz M.rz M.oz)/\(OG 132 4 cM E base (qS (qP g5) M.ln M.ln) M.lz)/\OG 136 4 bM E base (qS (qP N) M.hn M.hn) M.hz by
  obtain⟨⟨T0,k0⟩,I,F,w,p⟩:=D;have q:=H;have l:∀k,g<k->¬(qS (qP g) M.kn M.kn).ownBlock=some k:=λk a2 a=>by simp only[Value.ownBlock,Option.some.injEq]at a;omega
  exact⟨⟨T0.trans (T.mono (λj a=>⟨by simp only[Value.ownBlock,Option.some.injEq]at a;omega,by simp only[Value.ownBlock,Option.some.injEq]at a;omega⟩)),aD T k0$ l _ J⟩,dX F T (λj f=>l j (by rcases f with a|a|a<;>(simp only[Value.ownBlock,Option.some.injEq]at a;omega))),w.kept T (λk a=>l k (by simp only[Value.ownBlock,Option.some.injEq]at a;omega)),p.kept T (λk a=>l k (by simp only[Value.ownBlock,Option.some.injEq]at a;omega))⟩)
 have C2:=zh$ aBz (qP C) (qP S) (qP g4) M.fn M.fn M.rn M.rn M.on M.on base _ _ _ (1+u+M.kn) E (uW x.2.1) J;have K:=x.1.2.mc;go_wp2_with fail
 apply C2.mono;rintro e G ⟨rfl,_,T⟩
 have y:=zh (show(Turn (λj=>base<=j/\j<W6.heap.size) W G/\Blk G W.heap.size (qK M Y g C S g4 g5 N) 43)/\(OG 132 4 cM G base (qS (qP g5) M.ln M.ln) M.lz)/\OG 136 4 bM G base (qS (qP N) M.hn M.hn) M.hz by
  let⟨⟨T0,k0⟩,F,w,p⟩:=x;have q:=H;have rg:∀j,uT (qS (qP C) M.fn M.fn) (qS (qP S) M.rn M.rn) (qS (qP g4) M.on M.on) j->C<=j/\j<=g4:=λj f=>by rcases f with a|a|a<;>(simp only[Value.ownBlock,Option.some.injEq]at a;omega)
  exact⟨⟨T0.trans$ T.mono λj a=>jK$ rg j a,aD T k0 λs=>jK$ rg _ s⟩,w.kept T (λk a s=>by have:=rg _ s;simp only[Value.ownBlock,Option.some.injEq]at a;omega),p.kept T (λk a s=>by have:=rg _ s;simp only[Value.ownBlock,Option.some.injEq]at a;omega)⟩)
 have C3:=zh$ oO (qP g5) M.ln M.ln base _ (1+u+M.kn+M.fn+M.rn+M.on) G y.2.1 J J;have K:=y.1.2.mc;go_wp2_with fail
 apply C3.mono;rintro e w4 ⟨rfl,_,T⟩
 have B:=zh (show(Turn (λj=>base<=j/\j<W6.heap.size) W w4/\Blk w4 W.heap.size (qK M Y g C S g4 g5 N) 43)/\OG 136 4 bM w4 base (qS (qP N) M.hn M.hn) M.hz by
  let⟨⟨T0,k0⟩,w,p⟩:=y;have q:=H
  exact⟨⟨T0.trans (T.mono (λj a=>⟨by simp only[Value.ownBlock,Option.some.injEq]at a;omega,by simp only[Value.ownBlock,Option.some.injEq]at a;omega⟩)),aD T k0 (λa=>by simp only[Value.ownBlock,Option.some.injEq]at a;omega)⟩,p.kept T (λk a s=>by simp only[Value.ownBlock,Option.some.injEq]at a s;omega)⟩)
 have C4:=zh$ mW (qP N) M.hn M.hn base _ (1+u+M.kn+M.fn+M.rn+M.on+4*M.ln) w4 B.2 J J;have K:=B.1.2.mc;go_wp2_with fail
 apply C4.mono;rintro e w5 ⟨rfl,_,T⟩
 have HF:=zh (show Turn (λj=>base<=j/\j<W6.heap.size) W w5 by
  have q:=H
  exact B.o.1.1.trans (T.mono (λj a=>⟨by simp only[Value.ownBlock,Option.some.injEq]at a;omega,by simp only[Value.ownBlock,Option.some.injEq]at a;omega⟩)))
 go_wp2;go_ret;exact⟨1+u+M.kn+M.fn+M.rn+M.on+4*M.ln+4*M.hn,by go_num,HF,J⟩
def aG6 (M base f g i l g4 p s u w d W)(h:MnR d base M f g i l g4 p s u)(t:MnT w M)(b:MnB M)(a:qY d W):qC 10 #[.agg$ qK M f g i l g4 p s,qI 1] W λe w'=>∃k:Nat,e=.returned (qI k)/\Turn (λj=>base<=j/\j<d.heap.size) W w':=(aJk M base f g i l g4 p s u w d W h t b a).mono λ_ _⟨k,e,q,_⟩=>⟨k,e,q⟩
def aM9 {w:qw}(h:MnD w M)(a:MOk M):Stk (M.cn.z M.L) M.pc M.kz (M.cn.r M.L):=by
 have v:=a.cv h;let⟨d,e,_,b⟩:=iN a.c;exact aJv (C:=M.cn.z M.L) ⟨d,e⟩ v.g b h.f.2.2.1 h.r.2.2.1 rfl v.b
def aHc (e:aF ms'=aF M.ms):tkX (M.cp g0 g1 g2 g3 g4 g5 g6 ms')=tkX M:=by
 have a:(M.cp g0 g1 g2 g3 g4 g5 g6 ms').L=M.L:=by unfold Mn.L;show lkL (aF ms') M.cs M.cw M.ck M.cd=_;rw[e]
 unfold tkX;by_cases c:MOk M
 .rw[if_pos c,if_pos ((aOr e).2 c),aP2 e,a]
 .rw[if_neg c,if_neg (λk=>c$ (aOr e).1 k),aP2 e]
def aQn (h:Cv C L)(k:Stk (C.z L) C.pc C.kz (C.r L)):mkn (C.n L)<=mkn C+1:=by
 unfold Cn.n;generalize C.r L=r at *;have:r.x1.length=C.fz.length:=by rw[k.a];rfl
 have:r.x2.length=C.rz.length:=by
  rcases k.b with e|⟨p,s,v,_,_,_,e⟩
  .rw[e];rfl
  .rw[e,nN];rfl
 have:=k.l;have:r.x3.length<=C.oz.length+1:=k.o.2;have:=h.g;unfold mkn
 grind
def aSi (a:Cv N L)(d m b t):mkn (cld N L d m b t).2.2<=mkn N+4/\(cld N L d m b t).2.2.ps=N.ps:=by
 unfold cld;split
 .next c=>
  have e:0<=pcq N.ps m b:=by
   unfold gL at c
   grind
  let⟨f,g⟩:=aGv (C:=psC N L) (L:=L) (m:=m) (b:=b) ⟨a.k,a.e,a.b,a.r,a.g,a.s,a.n,a.t⟩ e t;refine⟨?_,g⟩;show mkn (tM N L m b t)<=_;unfold tM;rw[f];unfold mkn psC
  grind
 .grind
def aQ0 (a:Cv N L)(d:∀i,i<N.hz.length->frk N.ps (N.hz.getD i zFr))(f:N.hz.length≠0):mkn (lN N L)<=mkn N+4/\(lN N L).ps=N.ps:=by
 let⟨g,j⟩:=aGv (C:=aN6 N) (L:=L) (m:=(lFr N).1) (b:=(lFr N).2.1) ⟨a.k,a.e,a.b,a.r,a.g,a.s,a.n,a.t⟩ (d (N.hz.length-1) J).1.1 (lFr N).2.2.1;refine⟨?_,j⟩;have e:mkn (lN N L)=mkn (aLm N L):=by unfold lN mkn;dsimp only;rw[List.length_set]
 rw[e];unfold aLm;rw[g];unfold mkn aN6
 grind
def aSd (a:Cv N L)(b:∀i,i<N.hz.length->frk N.ps (N.hz.getD i zFr))(d n):mkn (flw N L d n).2.2<=mkn N+4/\(flw N L d n).2.2.ps=N.ps:=by
 unfold flw
 repeat' split
 all_goals first
  | with_reducible exact⟨Nat.le_add_right _ _,rfl⟩
  | with_reducible exact aSi a _ _ _ _
  | exact aQ0 a b J
def aQk {w:qw}(d:MnD w M):mkn (tkX M).2.2<=mkn M.cn+3*M.kn/\(tkX M).2.2.ps=aF M.ms:=by
 unfold tkX;by_cases a:MOk M
 .rw[if_pos a];have v:=a.cv d;have k:=aM9 d a;have:=aQn v k;have:M.kn=8:=by rw[<-d.k.1];exact v.g
  let⟨e,b⟩:=aSd (v.stp k) a.h.2 (M.cn.r M.L).did (M.cn.r M.L).num;unfold tkR tkF
  repeat' split
  .exact⟨Nat.le_add_right _ _,rfl⟩
  .exact⟨J,b⟩
  .exact⟨Nat.le_add_right _ _,rfl⟩
 .rw[if_neg a];exact⟨Nat.le_add_right _ _,rfl⟩
def aJt {F:Nat}(d:∀(M:Mn)(l:List (PMod×Mb))(w:qw),MnD w M->MnS w M l->qC F #[.agg$ qA M] w (MQ3 w$ tkX M)){j:qw}(a:MnT j M)(b:MnB M)(D X bs g k u x g4 y A B)(r:MnR X bs M g k u x g4 y A B)(q:D<=X.heap.size):qC F #[.agg$ qK M g k u x g4 y A] X (λe C=>qY X C/\∃N:Mn,e=.returned (.tuple #[.agg$ qA N,qI (tkX M).1,qI (tkX M).2.1])/\RX (tkX M).2.2 D N C):=by
 have e:=aFf r.m r.n a.m.1;apply(d (M.cp g k u x g4 y A B) (B.map Md.mb) X (r.mnd a b)$ r.mns a b).mono;rintro t C ⟨i,N,E,aP,L,s,rfl,f,p⟩;rw[aHc e]at *;exact⟨i,N,rfl,E,aP,L,s,f,xM q p⟩
