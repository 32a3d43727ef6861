import Derived.Test.YtdjdcdnjjmjonaaGreatT24
set_option linter.all false
set_option maxHeartbeats 8000000
namespace Go.Proofs.YtdjdcdnjjmjonaaGreat
open Go.RowKit
open Go.Proofs.Tryz
set_option maxRecDepth 100000
variable {C N:Cn}{L:Lay}{M:Mn}{S S':Nat->Prop}{Y:Lyb}{base c g g0 g1 g2 g3 g4 g5 g6 k:Nat}{ms':List Md}{n:Int}
structure Ev3 (w:qw)(M:Mn)(Y:Lyb)(X:qw):Prop where
 b:qY w X
 m:Blk X w.heap.size (qA M) 43
 l:Blk X (w.heap.size+1) Y.v 65
 r:Blk X (w.heap.size+1+1) z15 43
def Ev3.bw {w X X':qw}(h:Ev3 w M Y X)(b:qY X X'):Ev3 w M Y X':=⟨h.b.trans$ b.mono h.b.size,h.m.bw b,h.l.bw b,h.r.bw b⟩
def vA (w M Y):Ev3 w M Y (((w.alloc$ .cells (qA M) 43).alloc$ .cells Y.v 65).alloc$ .cells qZ 43):=by
 have b:=(Blk.new (w.alloc$ .cells (qA M) 43) Y.v 65).alloc$ .cells qZ 43;have a:=Blk.new ((w.alloc$ .cells (qA M) 43).alloc$ .cells Y.v 65) z15 43;simp only[xF]at b a;exact⟨(bal.alloc Jb _).alloc Jc _,((Blk.new _ _ _).alloc _).alloc _,b,by simpa[z15]using a⟩
def aC4 {w X:qw}{i:List (PMod×Mb)}{A:qO}(h:MnD w M)(H:MnS w M i)(a:MOk M)(b:qY w X)(rs:RS X A k c (plR (aF M.ms) M.L M.md M.bk$ hld M.lz M.md M.bk)):
 qC 75 #[.agg #[qI M.pc,qS M.ka M.kn M.kc],.agg$ qV M.fa M.fn M.fc M.ra M.rn M.rc M.oa M.on M.oc,qS A k c] X (StQ X$ M.cn.r M.L):=by
 let⟨l,og,g⟩:=H.a.2;let⟨_,_,j,_⟩:=iN a.c;have hc:=a.c;have d:=H.k.bw b;rw[j]at hc d⊢
 have e:(⟨M.fn,M.rn,M.on,M.fz,M.rz,M.oz,k,plR (aF M.ms) M.L M.md M.bk$ hld M.lz M.md M.bk⟩:Cy)=M.cn.z M.L:=by
  unfold Cn.z;rw[a.plq h,rs.1,cS H.f,cS H.r,cS H.o];rfl
 have f:M.cn.r M.L=spz ⟨M.fn,M.rn,M.on,M.fz,M.rz,M.oz,k,plR (aF M.ms) M.L M.md M.bk$ hld M.lz M.md M.bk⟩ M.pc M.kz:=by
  unfold Cn.r;rw[<-e,show M.cn.pc=M.pc from rfl,show M.cn.kz=M.kz from rfl]
 rw[f];exact aWf ⟨⟨M.fn,M.rn,M.on,M.fz,M.rz,M.oz,k,plR (aF M.ms) M.L M.md M.bk$ hld M.lz M.md M.bk⟩,M.ka,M.kc,M.fa,M.ra,M.oa,A,M.fc,M.rc,M.oc,c,M.pc,M.kz⟩ X g ⟨d,H.f.bw b,H.r.bw b,H.o.bw b,rs⟩ hc a.b
def aPa (M Ls)(Y:Lyb)(w)(h:MnD w M)(H:MnS w M Ls)(P:MOk M)(hl:Y.T w)(u:Y.L=M.L)(hd:(M.cn.r M.L).did=5):
 qC 24 #[.agg$ qA M,.agg Y.v] w (MQ3 w (5,(M.cn.r M.L).num,M.cn)):=by
 let⟨U,N⟩:=aN$ ((w.alloc$ .cells (qA M) 43).alloc$ .cells Y.v 65).alloc$ .cells qZ 43;have t:Ev3 w M Y U:=by rw[N];exact vA w M Y
 have O:=P.cv h;have p:=zb w λX b=>dQ M.la M.ln M.lc M.lz M.md M.bk X$ h.l.bw b;have a:=zb w λX b=>iY M.ma M.mn M.mc M.ms Y.L Y.a0 Y.c0 Y.xs Y.a2 Y.c2 Y.a5 Y.c5 Y.ts M.md M.bk 0 (hld M.lz M.md M.bk) X (h.m.bw b) (hl.bw b) (by rw[u];exact O.cz.l) O.cz.p (by rw[u];exact O.cz.s);rw[u]at a;have D:=zh λ(X:qw)(b:qY w X)(A:qO)(k c:Nat)rs=>aC4 (A:=A) (k:=k) (c:=c) h H P b rs;have a0:=zb w λX b=>bE M Ls X$ H.bw b;have I:=zb U λX b=>t.bw b;have y:=t.m.mc;have l6:=t.l.six;rw[u]at l6;have HU:=zh N;have i:=zh t.b
 have V:=zh (λ(X:qw)(b:qY U X)=>show qn X w 0=qk M.ma M.mn M.mc/\qn X w 10=qj M.md/\qn X w 11=qj M.bk/\qn X w 12=qk M.la M.ln M.lc/\qg X w 0=qk Y.a0 Y.xs.length Y.c0/\qg X w 1=qj M.L.stack/\qg X w 2=qk Y.a2 M.L.slots.length Y.c2/\qg X w 3=qj M.L.flash/\qg X w 4=qj M.L.ram/\qg X w 5=qk Y.a5 Y.ts.length Y.c5 by
  have q:=t.bw b;have l:=q.l.six;rw[u]at l
  exact⟨q.m.cell 0,q.m.cell 10,q.m.cell 11,q.m.cell 12,l.1,l.2.1,l.2.2.1,l.2.2.2.1,l.2.2.2.2.1,l.2.2.2.2.2.1⟩)
 generalize hld M.lz M.md M.bk=s at *;generalize M.cn.r M.L=r at *;obtain⟨rd,rn,rp,rr,y1,y2,y3⟩:=r;subst hd;clear h H P hl u N t O
 delta qC;go_in
 go_wp2_with (rw[<-HU.o])
 go_region_held3 (λg=>qn g w 0=qk M.ma M.mn M.mc/\qn g w 10=qj M.md/\qn g w 11=qj M.bk/\qn g w 12=qk M.la M.ln M.lc/\qg g w 0=qk Y.a0 Y.xs.length Y.c0/\qg g w 1=qj M.L.stack/\qg g w 2=qk Y.a2 M.L.slots.length Y.c2/\qg g w 3=qj M.L.flash/\qg g w 4=qj M.L.ram/\qg g w 5=qk Y.a5 Y.ts.length Y.c5) (go_keep)
  (first
    | (go_at_call 74;(first|with_reducible refine(p.o _ i.o).mono ?_|with_reducible refine(p.o _ i.o.drew).mono ?_);rintro e X1 ⟨rfl,j⟩;replace j:qY U X1:=(by first|exact j|exact aW j);have Z:=yT i.o j;obtain⟨f0,f1,f2,f3,f4,f5,f6,f7,f8,f9⟩:=V.o X1 j)
    | (go_at_call 73;(first|with_reducible refine(a.o _ Z).mono ?_|with_reducible refine(a.o _ Z.drew).mono ?_);rintro e X2 ⟨A,k,c,rfl,oR,G⟩;replace G:qY X1 X2:=(by first|exact G|exact aW G);have d:=yT j G;obtain⟨f0,f1,f2,f3,f4,f5,f6,f7,f8,f9⟩:=V.o X2 d))
 have B2:=yT i d;have F:=zh$ D X2 B2 A k c$ eM oR;have B:=zh$ I X2 d;clear j Z G d oR f0 f1 f2 f3 f4 f5 f6 f7 f8 f9 y p a V D I HU;have y:=B.m.mc;go_wp2_with fail
 apply F.mono;rintro e X3 ⟨rb,cp,a1,n1,d1,a2,n2,d2,a3,n3,d3,rfl,o3,q3,K⟩;let⟨V2,S⟩:=aN$ (X3.alloc$ .cells #[qI rp,qS (qP rb) 8 cp] 38).alloc$ .cells (qV a1 n1 d1 a2 n2 d2 a3 n3 d3) 39;have f:=zh (B.o.bw (by rw[S];exact(K.alloc K.size _).alloc (by simp;have:=K.size;omega) _:qY X2 V2));have a4:=zh S;clear S K o3 q3 F y;have y:=f.m.mc;have Q:=zh$ a0 V2 f.b;go_wp2_with (rw[<-a4.o])
 apply Q.mono;rintro e XA ⟨b,N',a5,aP,L,β,rfl,hm,E,W⟩;unfold mnV;have C:=f.bw b;have R:=C.r;have:=R.mc;have:=R.frozen;have x:=zh$ xA C$ xA hm$ xM f.b.size E;clear b hm E W C R y;go_wp2;exact cY N' rfl x.1.r rfl rfl rfl$ cX (r:=(5,rn,M.cn)) x.1.b x.1.r J x.2.1 x.2.2
def aHz {w p a:qw}{r:Res}{rb cp:Nat}{a1 a2 a3:qO}{n1 e n2 d n3 l:Nat}(E:Ev3 w M Y p)(A:a=(p.alloc$ .cells #[qI r.pc,qS (qP rb) 8 cp] 38).alloc (.cells (qV a1 n1 e a2 n2 d a3 n3 l) 39)):
 (qY p a/\Blk a p.heap.size #[qI r.pc,qS (qP rb) 8 cp] 38/\Blk a (p.heap.size+1) (qV a1 n1 e a2 n2 d a3 n3 l) 39/\a.heap.size=p.heap.size+1+1) /\
 ∀q f s,q=a.alloc (.cells (qA M) 43)->f=(q.setCell (qR a.heap.size 5)$ qI r.pc).setCell (qR a.heap.size 6) (qS (qP rb) 8 cp)->s=((f.setCell (qR a.heap.size 7)$ qS a1 n1 e).setCell (qR a.heap.size 8)$ qS a2 n2 d).setCell (qR a.heap.size 9) (qS a3 n3 l) ->
  qY a q/\Blk q a.heap.size (qA M) 43/\qY a f/\(∀i,f.frozen? (qR a.heap.size i)=false)/\(∃u v z,f.cell? (qR a.heap.size 7)=some u/\f.cell? (qR a.heap.size 8)=some v/\f.cell? (qR a.heap.size 9)=some z)/\qY a s/\Blk s a.heap.size (qA$ M.nx r (qP rb) cp a1 n1 e a2 n2 d a3 n3 l) 43:=by
 have:=(Blk.new p #[qI r.pc,qS (qP rb) 8 cp] 38).alloc$ .cells (qV a1 n1 e a2 n2 d a3 n3 l) 39;have H:=Blk.new (qm p #[qI r.pc,qS (qP rb) 8 cp] 38) (qV a1 n1 e a2 n2 d a3 n3 l) 39;simp only[xF]at H;refine⟨⟨by rw[A];exact bal.alloc Jb _,by grind,by grind,by rw[A];simp⟩,?_⟩;rintro q f s rfl rfl rfl;have x:qY a (a.alloc$ .cells (qA M) 43):=bal;have B:=Blk.new a (qA M) 43;have G:=(aM (a.alloc$ .cells (qA M) 43) a.heap.size 5$ qI r.pc).trans$ aM _ a.heap.size 6$ qS (qP rb) 8 cp;have y:=(B.set 5$ qI r.pc).set 6$ qS (qP rb) 8 cp;have F:=((aM ((((a.alloc$ .cells (qA M) 43).setCell (qh a 5)$ qI r.pc).setCell (qh a 6)$ qS (qP rb) 8 cp)) a.heap.size 7$ qS a1 n1 e).trans$ aM _ a.heap.size 8$ qS a2 n2 d).trans$ aM _ a.heap.size 9$ qS a3 n3 l;have D:=((y.set 7$ qS a1 n1 e).set 8$ qS a2 n2 d).set 9$ qS a3 n3 l;have t:=aG x G (λj I=>J) x.size;have b:=y;simp at b;exact⟨x,B,t,y.frozen,⟨_,_,_,b.cell 7,b.cell 8,b.cell 9⟩,aG t F (λj I=>J) t.size,by simpa using D⟩
def aPc (M Ls)(Y:Lyb)(w)(h:MnD w M)(H:MnS w M Ls)(ok:MOk M)(hl:Y.T w)(j:Y.L=M.L)(hd:(M.cn.r M.L).did=0)(k:Stk (M.cn.z M.L) M.pc M.kz (M.cn.r M.L)):
 qC 24 #[.agg$ qA M,.agg Y.v] w (MQ3 w (0,0,M.cn.n M.L)):=by
 let⟨U,hU⟩:=aN$ ((w.alloc$ .cells (qA M) 43).alloc$ .cells Y.v 65).alloc$ .cells qZ 43;have B:Ev3 w M Y U:=by rw[hU];exact vA w M Y
 have hv:=ok.cv h;have x:=zb w λX b=>dQ M.la M.ln M.lc M.lz M.md M.bk X$ h.l.bw b;have a:=zb w λX b=>iY M.ma M.mn M.mc M.ms Y.L Y.a0 Y.c0 Y.xs Y.a2 Y.c2 Y.a5 Y.c5 Y.ts M.md M.bk 0 (hld M.lz M.md M.bk) X (h.m.bw b) (hl.bw b) (j ▸ hv.cz.l) hv.cz.p$ j ▸ hv.cz.s;rw[j]at a;have I:=zh λ(X:qw)(b:qY w X)(A:qO)(k c:Nat)rs=>aC4 (A:=A) (k:=k) (c:=c) h H ok b rs;have:=zb w λX b=>bE M Ls X$ H.bw b;have Z:=zb U λX b=>B.bw b;have:=zh j;have F:=B.m.mc;have l6:=B.l.six;rw[j]at l6;obtain⟨l0,l1,l2,l3,l4,l5,_⟩:=l6;have HU:=zh hU;have D:=zh λ(X:qw)(b:qY w X)(rb cp:Nat)(a1 a2 a3:qO)(C t N p S y bs:Nat)o q=>wG (b:=bs) (rb:=rb) (kc:=cp) (fa:=a1) (ra:=a2) (oa:=a3) (fn:=C) (fc:=t) (rn:=N) (rc:=p) (on:=S) (oc:=y) h H ok b k o q;have Q:Zh (∀(rb cp:Nat)(a1 a2 a3:qO)(C t N p S y:Nat),(M.nx (M.cn.r M.L) (qP rb) cp a1 C t a2 N p a3 S y).cn=M.cn.n M.L):=λ_ _ _ _ _ _ _ _ _ _ _=>rfl;unfold Cn.n at Q⊢;have f:=zh B.b
 have HF:=zh (λ(X:qw)(b:qY U X)=>show qn X w 0=qk M.ma M.mn M.mc/\qn X w 10=qj M.md/\qn X w 11=qj M.bk/\qn X w 12=qk M.la M.ln M.lc/\qg X w 0=qk Y.a0 Y.xs.length Y.c0/\qg X w 1=qj M.L.stack/\qg X w 2=qk Y.a2 M.L.slots.length Y.c2/\qg X w 3=qj M.L.flash/\qg X w 4=qj M.L.ram/\qg X w 5=qk Y.a5 Y.ts.length Y.c5 by
  have q:=B.bw b;have l:=q.l.six;rw[j]at l
  exact⟨q.m.cell 0,q.m.cell 10,q.m.cell 11,q.m.cell 12,l.1,l.2.1,l.2.2.1,l.2.2.2.1,l.2.2.2.2.1,l.2.2.2.2.2.1⟩)
 generalize hld M.lz M.md M.bk=s at *;generalize M.cn.r M.L=r at *;obtain⟨rd,rn,rp,rr,y1,y2,y3⟩:=r;dsimp only at hd;subst hd;clear h H ok hl j hU B hv k
 delta qC;go_in
 go_wp2_with (rw[<-HU.o])
 go_region_held3 (λg=>qn g w 0=qk M.ma M.mn M.mc/\qn g w 10=qj M.md/\qn g w 11=qj M.bk/\qn g w 12=qk M.la M.ln M.lc/\qg g w 0=qk Y.a0 Y.xs.length Y.c0/\qg g w 1=qj M.L.stack/\qg g w 2=qk Y.a2 M.L.slots.length Y.c2/\qg g w 3=qj M.L.flash/\qg g w 4=qj M.L.ram/\qg g w 5=qk Y.a5 Y.ts.length Y.c5) (go_keep)
  (first
    | (go_at_call 74;(first|with_reducible refine(x.o _ f.o).mono ?_|with_reducible refine(x.o _ f.o.drew).mono ?_);rintro e X1 ⟨rfl,i⟩;replace i:qY U X1:=(by first|exact i|exact aW i);have B1:=yT f.o i;obtain⟨f0,f1,f2,f3,f4,f5,f6,f7,f8,f9⟩:=HF.o X1 i)
    | (go_at_call 73;(first|with_reducible refine(a.o _ B1).mono ?_|with_reducible refine(a.o _ B1.drew).mono ?_);rintro e X2 ⟨A,k,c,rfl,oR,V⟩;replace V:qY X1 X2:=(by first|exact V|exact aW V);have d:=yT i V;obtain⟨f0,f1,f2,f3,f4,f5,f6,f7,f8,f9⟩:=HF.o X2 d))
 have B2:=yT f d;have O:=zh$ I X2 B2 A k c$ eM oR;have G:=zh$ Z.o X2 d;clear i B1 V d oR f0 f1 f2 f3 f4 f5 f6 f7 f8 f9 l0 l1 l2 l3 l4 l5 F x a HF I Z HU;have F:=G.o.m.mc;go_wp2_with fail
 apply O.o.mono;rintro e X3 ⟨rb,cp,a1,C,t,a2,N,p,a3,S,y,rfl,o3,q3,b3⟩;let⟨V2,a4⟩:=aN$ (qm X3 #[qI rp,qS (qP rb) 8 cp] 38).alloc$ .cells (qV a1 C t a2 N p a3 S y) 39;let⟨V3,a5⟩:=aN$ V2.alloc$ .cells (qA M) 43;let⟨V4,a6⟩:=aN$ (V3.setCell (qh V2 5)$ qI rp).setCell (qh V2 6)$ qS (qP rb) 8 cp;let⟨V5,a7⟩:=aN$ ((V4.setCell (qh V2 7)$ qS a1 C t).setCell (qh V2 8)$ qS a2 N p).setCell (qh V2 9)$ qS a3 S y;have P:=G.bw b3;let⟨⟨a0,kC,a8,ag⟩,q5⟩:=aHz (r:=⟨0,rn,rp,rr,y1,y2,y3⟩) P a4;let⟨c3,kN,c4,nf,⟨u7,u8,u9,w7,w8,w9⟩,c5,a9⟩:=q5 V3 V4 V5 a5 a6 a7;have:=(kC.bw c3).two';have:=(a8.bw c4).three;have:=kN.mc;have:=kN.frozen;have u:=yT a0 c5;have W:=zh$ P.bw u;let⟨af,H5,an⟩:=D X3 P.b rb cp a1 a2 a3 C t N p S y _ o3 q3;have R:=zh$ bE _ Ls V5$ H5.bw u;rw[Q.o]at R;let⟨n0,C,N,S,n4,n5,n6,n7,n8,n9,ah,ai,aj,ak,am⟩:=a9.mc;have ad:=zh a4;have ae:=zh a5;have ab:=zh a6;have aa:=zh a7;have E2:=P.bw a0;clear F;have F:=E2.m.mc;clear a4 a5 a6 a7 b3 o3 q3 O P a0 kC a8 ag q5 c3 kN c4 c5 a9 u af H5 an E2 D;go_wp2_with (first|rw[<-ad.o]|rw[<-ae.o]|rw[<-ab.o]|rw[<-aa.o])
 apply R.mono;rintro e XA ⟨b,N',ao,aP,L,β,rfl,hm,K,ac⟩;unfold mnV;have EA:=W.bw b;have KR:=EA.r;unfold z15 at KR;have:=KR.mc;have:=KR.frozen;have E:=zh$ xA EA$ xA hm$ xM W.b.size K;clear b hm K ac EA KR F n0 C N S n4 n5 n6 n7 n8 n9 ah ai aj ak am;go_wp2;exact cY N' rfl E.1.r rfl rfl rfl$ cX (r:=(0,0,_)) E.1.b E.1.r J E.2.1 E.2.2
def aVp (M N g)(Y:Lyb)(V r rb cp a1 a2 a3 n1 G n2 I n3 K)(i:N=M.nx r (qP rb) cp a1 n1 G a2 n2 I a3 n3 K)(h:MnD V M)(H:MnS V M g)(s:MnD V N)(t:MnS V N g)(b:MOk N)(w:Y.T V)(l:Y.L=M.L)(j:Cv M.cn M.L)(q:r.rg=M.kz)(f:M.kn=8)(y:M.tn<1000000000)(d:wrd r.num)(A:2<=r.did)(x:r.did<=4)(p:r.did=4->r.num=0):
 qC 76 #[.agg$ qA M,.agg$ qA N,.agg Y.v,qI r.did,qI r.num] V (MQ3 V$ tkE M.cn N.cn M.L r.did r.num):=by
 have k:N.L=M.L:=by rw[i];rfl
 have B:N.cn.md=M.md:=by rw[i];rfl
 have C:N.cn.bk=M.bk:=by rw[i];rfl
 have D:N.hz=M.hz:=by rw[i]
 have E:N.kz=M.kz:=by grind
 have F:∀a,awy N.cn Y.L a=awy M.cn Y.L a/\atB N.cn Y.L a=atB M.cn Y.L a:=by rw[i];exact λa=>⟨rfl,rfl⟩
 have u:N.tn<1000000000:=by grind
 clear i q;rw[<-l]at j⊢;rcases(show r.did=4\/r.did=2\/r.did=3 from J)with e|e|e
 .rw[e];exact aMb M N g Y _ V h H s t b w l k j B C D E F f u d$ p e
 .rw[e];exact aMd M N g Y _ V h H s t b w l k j B C D E F f u d
 .rw[e];exact aMc M N g Y _ V h H s t b w l k j B C D E F f u d
def aO9 (M Ls)(Y:Lyb)(w)(h:MnD w M)(H:MnS w M Ls)(D:MOk M)(hl:Y.T w)(x:Y.L=M.L)(d2:2<=(M.cn.r M.L).did)(d4:(M.cn.r M.L).did<=4)(ht:M.tn<1000000000)(k:Stk (M.cn.z M.L) M.pc M.kz (M.cn.r M.L)):
 qC 24 #[.agg$ qA M,.agg Y.v] w (MQ3 w$ tkE M.cn (M.cn.n M.L) M.L (M.cn.r M.L).did (M.cn.r M.L).num):=by
 let⟨U,hU⟩:=aN$ ((w.alloc$ .cells (qA M) 43).alloc$ .cells Y.v 65).alloc$ .cells qZ 43;have I:Ev3 w M Y U:=by rw[hU];exact vA w M Y
 have hv:=D.cv h;have F:=zb w λX b=>dQ M.la M.ln M.lc M.lz M.md M.bk X$ h.l.bw b;have i:=zb w λX b=>iY M.ma M.mn M.mc M.ms Y.L Y.a0 Y.c0 Y.xs Y.a2 Y.c2 Y.a5 Y.c5 Y.ts M.md M.bk 0 (hld M.lz M.md M.bk) X (h.m.bw b) (hl.bw b) (x ▸ hv.cz.l) hv.cz.p$ x ▸ hv.cz.s;rw[x]at i;have Z:=zh λ(X:qw)(b:qY w X)(A:qO)(k c:Nat)rs=>aC4 (A:=A) (k:=k) (c:=c) h H D b rs;have ab:=zb U λX b=>I.bw b;have:=zh x;have P:=I.m.mc;have l6:=I.l.six;rw[x]at l6;obtain⟨l0,l1,l2,l3,l4,l5,_⟩:=l6;have HU:=zh hU;let⟨_,_,ac,_⟩:=iN D.c
 obtain⟨ae,af,ad⟩:(M.cn.r M.L).rg=M.kz/\wrd (M.cn.r M.L).num/\((M.cn.r M.L).did=4->(M.cn.r M.L).num=0):=by
  rcases k.d with⟨e1,_⟩|⟨f,e⟩|⟨d,n,_,e,hn,h4⟩
  .omega
  .rw[e]at d4;exact absurd (show(5:Int)<=4 from d4) Ja
  .rw[e];exact⟨rfl,hn,h4⟩
 let⟨R,hR⟩:=aN$ tkE M.cn (M.cn.n M.L) M.L (M.cn.r M.L).did (M.cn.r M.L).num;have a9:∀(rb cp:Nat)(a1 a2 a3:qO)(g y C d2 N B:Nat),(M.nx (M.cn.r M.L) (qP rb) cp a1 g y a2 C d2 a3 N B).cn=M.cn.n M.L:=λ_ _ _ _ _ _ _ _ _ _ _=>rfl;rw[<-hR]
 have j:=zh (λ(X V:qw)(b:qY w X)(W:qY X V)(rb cp:Nat)(a1 a2 a3:qO)(g y C a N B bs:Nat)(o:OI X bs (qS (qP rb) 8 cp) (M.cn.r M.L).rg)(q:cB X bs (qS a1 g y) (qS a2 C a) (qS a3 N B) (M.cn.r M.L).x1 (M.cn.r M.L).x2 (M.cn.r M.L).x3)=>
  aVp M _ Ls Y V (M.cn.r M.L) rb cp a1 a2 a3 g y C a N B rfl (h.bw$ yT b W) (H.bw$ yT b W) ((wG h H D b k o q).1.bw W) ((wG h H D b k o q).2.1.bw W) (wG h H D b k o q).2.2 (hl.bw$ yT b W) x hv ae ac ht af d2 d4 ad)
 simp only[a9,<-hR]at j;clear a9 hR;have u:=zh I.b
 have HF:=zh (λ(X:qw)(b:qY U X)=>show qn X w 0=qk M.ma M.mn M.mc/\qn X w 10=qj M.md/\qn X w 11=qj M.bk/\qn X w 12=qk M.la M.ln M.lc/\qg X w 0=qk Y.a0 Y.xs.length Y.c0/\qg X w 1=qj M.L.stack/\qg X w 2=qk Y.a2 M.L.slots.length Y.c2/\qg X w 3=qj M.L.flash/\qg X w 4=qj M.L.ram/\qg X w 5=qk Y.a5 Y.ts.length Y.c5 by
  have q:=I.bw b;have l:=q.l.six;rw[x]at l
  exact⟨q.m.cell 0,q.m.cell 10,q.m.cell 11,q.m.cell 12,l.1,l.2.1,l.2.2.1,l.2.2.2.1,l.2.2.2.2.1,l.2.2.2.2.2.1⟩)
 generalize hld M.lz M.md M.bk=s at *;generalize M.cn.r M.L=r at *;obtain⟨rd,rn,rp,rr,y1,y2,y3⟩:=r;dsimp only at d2 d4 j;clear h H D hl x hU I hv k ac ae af ad ht
 delta qC;go_in
 go_wp2_with (rw[<-HU.o])
 go_region_held3 (λS=>qn S w 0=qk M.ma M.mn M.mc/\qn S w 10=qj M.md/\qn S w 11=qj M.bk/\qn S w 12=qk M.la M.ln M.lc/\qg S w 0=qk Y.a0 Y.xs.length Y.c0/\qg S w 1=qj M.L.stack/\qg S w 2=qk Y.a2 M.L.slots.length Y.c2/\qg S w 3=qj M.L.flash/\qg S w 4=qj M.L.ram/\qg S w 5=qk Y.a5 Y.ts.length Y.c5) (go_keep)
  (first
    | (go_at_call 74;(first|with_reducible refine(F.o _ u.o).mono ?_|with_reducible refine(F.o _ u.o.drew).mono ?_);rintro e X1 ⟨rfl,E⟩;replace E:qY U X1:=(by first|exact E|exact aW E);have B1:=yT u.o E;obtain⟨f0,f1,f2,f3,f4,f5,f6,f7,f8,f9⟩:=HF.o X1 E)
    | (go_at_call 73;(first|with_reducible refine(i.o _ B1).mono ?_|with_reducible refine(i.o _ B1.drew).mono ?_);rintro e X2 ⟨A,k,c,rfl,oR,b2⟩;replace b2:qY X1 X2:=(by first|exact b2|exact aW b2);have p:=yT E b2;obtain⟨f0,f1,f2,f3,f4,f5,f6,f7,f8,f9⟩:=HF.o X2 p))
 have B2:=yT u p;have aa:=zh$ Z X2 B2 A k c$ eM oR;have Q:=zh$ ab.o X2 p;clear E B1 b2 p oR f0 f1 f2 f3 f4 f5 f6 f7 f8 f9 l0 l1 l2 l3 l4 l5 P F i HF Z ab HU;have P:=Q.o.m.mc;go_wp2_with fail
 apply aa.o.mono;rintro e X3 ⟨rb,cp,a1,g,y,a2,C,a,a3,N,B,rfl,o3,q3,b3⟩;let⟨V2,a4⟩:=aN$ (qm X3 #[qI rp,qS (qP rb) 8 cp] 38).alloc$ .cells (qV a1 g y a2 C a a3 N B) 39;let⟨V3,a5⟩:=aN$ V2.alloc$ .cells (qA M) 43;let⟨V4,a6⟩:=aN$ (V3.setCell (qh V2 5)$ qI rp).setCell (qh V2 6)$ qS (qP rb) 8 cp;let⟨V5,a7⟩:=aN$ ((V4.setCell (qh V2 7)$ qS a1 g y).setCell (qh V2 8)$ qS a2 C a).setCell (qh V2 9)$ qS a3 N B;have K:=Q.bw b3;let⟨⟨a0,kC,ag,ao⟩,q5⟩:=aHz (r:=⟨rd,rn,rp,rr,y1,y2,y3⟩) K a4;let⟨c3,kN,c4,nf,⟨u7,u8,u9,w7,w8,w9⟩,c5,ah⟩:=q5 V3 V4 V5 a5 a6 a7;have:=(kC.bw c3).two';have:=(ag.bw c4).three;have:=kN.mc;have:=kN.frozen;have t:=yT a0 c5;have G:=zh$ K.bw t;have ak:=zh$ j X3 V5 K.b t rb cp a1 a2 a3 g y C a N B _ o3 q3;let⟨n0,g,C,N,n4,n5,n6,n7,n8,n9,ap,aq,ar,au,av⟩:=ah.mc;have am:=zh a4;have an:=zh a5;have aj:=zh a6;have ai:=zh a7;have E2:=K.bw a0;have l6:=(K.bw t).l.six;obtain⟨l0,l1,l2,l3,l4,l5,_⟩:=l6;clear P;have P:=E2.m.mc;have:=G.m.mc;have:(rd==5)=false:=Jc
 have:(rd==0)=false:=Jc
 have:(rd==1)=false:=Jc
 clear a4 a5 a6 a7 b3 o3 q3 aa K a0 kC ag ao q5 c3 kN c4 c5 ah t E2 j;go_wp2_with (first|rw[<-am.o]|rw[<-an.o]|rw[<-aj.o]|rw[<-ai.o])
 apply ak.mono;rintro e XA ⟨b,N',aw,aP,L,β,rfl,hm,a8⟩;unfold mnV;have EA:=G.bw b;have KR:=EA.r;unfold z15 at KR;have:=KR.mc;have:=KR.frozen;have O:=zh$ xA EA$ xA hm$ xM G.b.size a8;clear b hm a8 EA KR P n0 g C N n4 n5 n6 n7 n8 n9 ap aq ar au av;go_wp2;exact cY N' rfl O.1.r rfl rfl rfl$ cX (r:=R) O.1.b O.1.r J O.2.1 O.2.2
def aPb (M Ls)(Y:Lyb)(w)(h:MnD w M)(H:MnS w M Ls)(P:MOk M)(hl:Y.T w)(D:Y.L=M.L)(hd:(M.cn.r M.L).did=1)(k:Stk (M.cn.z M.L) M.pc M.kz (M.cn.r M.L)):
 qC 24 #[.agg$ qA M,.agg Y.v] w (MQ3 w (1,M.kz.getD 0 0,M.cn.n M.L)):=by
 let⟨U,hU⟩:=aN$ ((w.alloc$ .cells (qA M) 43).alloc$ .cells Y.v 65).alloc$ .cells qZ 43;have I:Ev3 w M Y U:=by rw[hU];exact vA w M Y
 have hv:=P.cv h;have G:=zb w λX b=>dQ M.la M.ln M.lc M.lz M.md M.bk X$ h.l.bw b;have p:=zb w λX b=>iY M.ma M.mn M.mc M.ms Y.L Y.a0 Y.c0 Y.xs Y.a2 Y.c2 Y.a5 Y.c5 Y.ts M.md M.bk 0 (hld M.lz M.md M.bk) X (h.m.bw b) (hl.bw b) (D ▸ hv.cz.l) hv.cz.p$ D ▸ hv.cz.s;rw[D]at p;have Z:=zh λ(X:qw)(b:qY w X)(A:qO)(k c:Nat)rs=>aC4 (A:=A) (k:=k) (c:=c) h H P b rs;have:=zb w λX b=>bE M Ls X$ H.bw b;have af:=zb U λX b=>I.bw b;have:=zh D;have R:=I.m.mc;have l6:=I.l.six;rw[D]at l6;obtain⟨l0,l1,l2,l3,l4,l5,_⟩:=l6;have HU:=zh hU;have Q:=zh λ(X:qw)(b:qY w X)(rb cp:Nat)(a1 a2 a3:qO)(n1 j n2 i n3 x bs:Nat)o q=>wG (b:=bs) (rb:=rb) (kc:=cp) (fa:=a1) (ra:=a2) (oa:=a3) (fn:=n1) (fc:=j) (rn:=n2) (rc:=i) (on:=n3) (oc:=x) h H P b k o q;let⟨C',hC⟩:=aN$ M.cn.n M.L;have ad:Zh (∀(rb cp:Nat)(a1 a2 a3:qO)(n1 j n2 i n3 x:Nat),(M.nx (M.cn.r M.L) (qP rb) cp a1 n1 j a2 n2 i a3 n3 x).cn=C'):=λ_ _ _ _ _ _ _ _ _ _ _=>by rw[hC];rfl
 rw[<-hC];clear hC;let⟨_,_,aa,_⟩:=iN P.c
 obtain⟨f,og,ea,a0⟩:∃f og,M.ka=qe f og/\Zh (∀X,qY w X->qN X f og=qj (M.kz.getD 0 0)):=by
  let⟨f,og,e⟩:=H.a.2;refine⟨f,og,e,λX b=>?_⟩;have q:=H.k.bw b;rw[e,aa]at q;simpa using q.at 0 J
 have:f<w.heap.size:=xD w _$ a0.o w brf;have F:=zh (λ(X:qw)(b:Ev3 w M Y X)=>show qn X w 6=qk (qe f og) 8 M.kc by rw[<-ea,<-aa];exact b.m.cell 6);clear ea aa;have u:=zh I.b
 have HF:=zh (λ(X:qw)(b:qY U X)=>show qn X w 0=qk M.ma M.mn M.mc/\qn X w 10=qj M.md/\qn X w 11=qj M.bk/\qn X w 12=qk M.la M.ln M.lc/\qg X w 0=qk Y.a0 Y.xs.length Y.c0/\qg X w 1=qj M.L.stack/\qg X w 2=qk Y.a2 M.L.slots.length Y.c2/\qg X w 3=qj M.L.flash/\qg X w 4=qj M.L.ram/\qg X w 5=qk Y.a5 Y.ts.length Y.c5 by
  have q:=I.bw b;have l:=q.l.six;rw[D]at l
  exact⟨q.m.cell 0,q.m.cell 10,q.m.cell 11,q.m.cell 12,l.1,l.2.1,l.2.2.1,l.2.2.2.1,l.2.2.2.2.1,l.2.2.2.2.2.1⟩)
 generalize hld M.lz M.md M.bk=s at *;generalize M.cn.r M.L=r at *;obtain⟨rd,rn,rp,rr,y1,y2,y3⟩:=r;dsimp only at hd;subst hd;clear h H P hl D hU I hv k
 delta qC;go_in
 go_wp2_with (rw[<-HU.o])
 go_region_held3 (λg=>qn g w 0=qk M.ma M.mn M.mc/\qn g w 10=qj M.md/\qn g w 11=qj M.bk/\qn g w 12=qk M.la M.ln M.lc/\qg g w 0=qk Y.a0 Y.xs.length Y.c0/\qg g w 1=qj M.L.stack/\qg g w 2=qk Y.a2 M.L.slots.length Y.c2/\qg g w 3=qj M.L.flash/\qg g w 4=qj M.L.ram/\qg g w 5=qk Y.a5 Y.ts.length Y.c5) (go_keep)
  (first
    | (go_at_call 74;(first|with_reducible refine(G.o _ u.o).mono ?_|with_reducible refine(G.o _ u.o.drew).mono ?_);rintro e X1 ⟨rfl,B⟩;replace B:qY U X1:=(by first|exact B|exact aW B);have B1:=yT u.o B;obtain⟨f0,f1,f2,f3,f4,f5,f6,f7,f8,f9⟩:=HF.o X1 B)
    | (go_at_call 73;(first|with_reducible refine(p.o _ B1).mono ?_|with_reducible refine(p.o _ B1.drew).mono ?_);rintro e X2 ⟨A,k,c,rfl,oR,b2⟩;replace b2:qY X1 X2:=(by first|exact b2|exact aW b2);have t:=yT B b2;obtain⟨f0,f1,f2,f3,f4,f5,f6,f7,f8,f9⟩:=HF.o X2 t))
 have B2:=yT u t;have ac:=zh$ Z X2 B2 A k c$ eM oR;have V:=zh$ af.o X2 t;clear B B1 b2 t oR f0 f1 f2 f3 f4 f5 f6 f7 f8 f9 l0 l1 l2 l3 l4 l5 R G p HF Z af HU;have R:=V.o.m.mc;go_wp2_with fail
 apply ac.o.mono;rintro e X3 ⟨rb,cp,a1,j1,j,a2,W,i,a3,j3,x,rfl,o3,q3,b3⟩;let⟨C,a6⟩:=aN$ (qm X3 #[qI rp,qS (qP rb) 8 cp] 38).alloc$ .cells (qV a1 j1 j a2 W i a3 j3 x) 39;let⟨V3,a7⟩:=aN$ C.alloc$ .cells (qA M) 43;let⟨V4,a8⟩:=aN$ (V3.setCell (qh C 5)$ qI rp).setCell (qh C 6)$ qS (qP rb) 8 cp;let⟨S,a9⟩:=aN$ ((V4.setCell (qh C 7)$ qS a1 j1 j).setCell (qh C 8)$ qS a2 W i).setCell (qh C 9)$ qS a3 j3 x;have O:=V.bw b3;let⟨⟨a5,kC,ag,b0⟩,q5⟩:=aHz (r:=⟨1,rn,rp,rr,y1,y2,y3⟩) O a6;let⟨c3,kN,c4,nf,⟨u7,u8,u9,w7,w8,w9⟩,c5,a4⟩:=q5 V3 V4 S a7 a8 a9;have g0:=(kC.bw c3).two';have g3:=(ag.bw c4).three;have p0:=kN.mc;have pf:=kN.frozen;have E:=yT a5 c5;have a:=zh$ O.bw E;let⟨az,H5,b1⟩:=Q X3 O.b rb cp a1 a2 a3 j1 j W i j3 x _ o3 q3;let⟨N,hN⟩:=aN$ M.nx ⟨1,rn,rp,rr,y1,y2,y3⟩ (qP rb) cp a1 j1 j a2 W i a3 j3 x;have eC:=(congrArg Mn.cn hN).trans$ ad rb cp a1 a2 a3 j1 j W i j3 x;rw[<-hN]at a4 H5;clear ad hN;subst eC;have ae:=zb S λX b=>bE N Ls X$ H5.bw$ yT E b;have an:=zb S λX b=>(a4.bw b).mc;let⟨n0,n1,n2,n3,n4,n5,n6,n7,n8,n9,ah,ai,aj,ak,am⟩:=a4.mc;have:=F S a;have:=a0.o S a.b;have y:=zb S λX b=>show Blk X (w.heap.size+1+1) qZ 43/\qY w X/\w.heap.size<=w.heap.size+1+1 from⟨(a.bw b).r,(a.bw b).b,J⟩;have av:=zb S λX b=>a0.o X (a.bw b).b;have au:=zb S λX b=>F X$ a.bw b;have aw:=zh a.b.size;have KR:=O.r;unfold z15 at KR;have ax:w.heap.size+1+1<X3.heap.size:=xD X3 _ KR.mc.1;obtain⟨q1,q2,q3,q4,q5,q6⟩:f≠w.heap.size+1+1/\w.heap.size+1+1≠f/\w.heap.size≠w.heap.size+1+1/\w.heap.size+1+1≠w.heap.size/\C.heap.size≠w.heap.size+1+1/\w.heap.size+1+1≠C.heap.size:=J
 clear KR ax;have ay:=zh a6;have ao:=zh a7;have aq:=zh a8;have ap:=zh a9;have E2:=O.bw a5;clear R;have R:=E2.m.mc;clear a6 a7 a8 a9 b3 o3 q3 ac O a5 kC ag b0 q5 c3 kN c4 c5 a4 E az H5 b1 E2 Q;go_wp2_with (first|rw[<-ay.o]|rw[<-ao.o]|rw[<-aq.o]|rw[<-ap.o])
 clear a a0 F R p0 pf g0 g3;generalize w.heap.size+1+1=zr at *;generalize C.heap.size=d at *
 go_region_held3 (λg=>qn g w 6=qk (qe f og) 8 M.kc/\qN g f og=qj (M.kz.getD 0 0)/\qN g d 0=qk N.ma N.mn N.mc/\qN g d 1=qj N.cs/\qN g d 2=qj N.cw/\qN g d 3=qj N.ck/\qN g d 4=qj N.cd/\qN g d 5=qj N.pc/\qN g d 6=qk N.ka N.kn N.kc/\qN g d 7=qk N.fa N.fn N.fc/\qN g d 8=qk N.ra N.rn N.rc/\qN g d 9=qk N.oa N.on N.oc/\qN g d 10=qj N.md/\qN g d 11=qj N.bk/\qN g d 12=qk N.la N.ln N.lc/\qN g d 13=qk N.ha N.hn N.hc/\qN g d 14=qj N.tn) (go_keep)
  (first|(go_at_call 23;(first|with_reducible refine(ae.o _ brf).mono ?_|with_reducible refine(ae.o _ brf.drew).mono ?_);rintro e X ⟨b,N',b4,aP,L,β,rfl,hm,ab,ar⟩;replace b:qY S X:=(by first|exact b|exact aW b);unfold mnV;have y0:=av.o X b;have y6:=au.o X b;obtain⟨n0,n1,n2,n3,n4,n5,n6,n7,n8,n9,ah,ai,aj,ak,am⟩:=an.o X b;obtain⟨r0,r1,r2,r3,r4,r5,r6,r7,r8,r9,b5,b6,b7,b8,b9⟩:=(y.o X b).1.mc;have:=(y.o X b).1.frozen))
 have K:=zh$ xA (y X b)$ xA hm$ xM aw ab;clear b hm ab ar n0 n1 n2 n3 n4 n5 n6 n7 n8 n9 ah ai aj ak am y0 y6;go_wp2;exact cY N' rfl K.1.1 rfl rfl rfl$ cX (r:=(1,M.kz.getD 0 0,N.cn)) K.1.2.1 K.1.1 K.1.2.2 K.2.1 K.2.2
def aU7 (a:C.tn<1000000000):tkR C L=tkE C (C.n L) L (C.r L).did (C.r L).num:=by
 unfold tkR tkE tkF
 grind
def aVb:tkE C N L 0 n=(0,n,N):=by
 have:flw N L 0 n=(0,n,N):=by
  unfold flw
  grind
 unfold tkE
 grind
def aU9:tkE C N L 5 n=(5,n,C):=by
 have:flw N L 5 n=(5,n,N):=by
  unfold flw
  grind
 unfold tkE
 grind
def aVa:tkE C N L 1 n=(1,N.kz.getD 0 0,N):=by
 have:flw N L 1 n=(1,N.kz.getD 0 0,N):=by
  unfold flw
  grind
 unfold tkE
 grind
def aIc (M g)(Y:Lyb)(w)(h:MnD w M)(H:MnS w M g)(a:MOk M)(i:Y.T w)(b:Y.L=M.L)(l:M.tn<1000000000)(k:Stk (M.cn.z M.L) M.pc M.kz (M.cn.r M.L)):
 qC 24 #[.agg$ qA M,.agg Y.v] w (MQ3 w$ tkR M.cn M.L):=by
 rw[aU7 (C:=M.cn) l];rcases k.d with⟨e,e0⟩|⟨f,e⟩|⟨d,n,hd,e,_,_⟩
 .rw[e,e0,aVb];exact aPc M g Y w h H a i b e k
 .have e5:(M.cn.r M.L).did=5:=by rw[e]
  rw[e5,aU9];exact aPa M g Y w h H a i b e5
 .have j:(M.cn.r M.L).did=d:=by rw[e]
  by_cases c:d=1
  .have e1:=j.trans c
   have p:(M.cn.n M.L).kz=M.kz:=by
    show(M.cn.r M.L).rg=M.kz;rw[e]
   rw[e1,aVa,p];exact aPb M g Y w h H a i b e1 k
  .exact aO9 M g Y w h H a i b (by rw[j];omega) (by rw[j];omega) l k
def aLf (M S w)(h:MnD w M)(H:MnS w M S)(k:MOk M->Stk (M.cn.z M.L) M.pc M.kz (M.cn.r M.L)):qC 6 #[.agg$ qA M] w (MQ3 w$ tkX M):=by
 let⟨U,C⟩:=aN$ (w.alloc$ .cells (qA M) 43).alloc$ .cells qZ 43;have D:qY w U:=by rw[C];exact bal.alloc Jb _
 have P:Blk U w.heap.size (qA M) 43:=by rw[C];exact(Blk.new _ _ _).alloc _
 have kR:Blk U (w.heap.size+1) z15 43:=by rw[C];have:=Blk.new (w.alloc$ .cells (qA M) 43) z15 43;simpa[z15]using this
 have A:=zh$ aPd M U$ h.bw D;have t:=zb U λX I=>xA ((h.bw D).bw I)$ (H.bw D).bw I;have W:=zb U λX I=>xA (P.bw I)$ kR.bw I;have HU:=zh C;have E:=zh D;have x0:=P.mc;clear C D P kR h H
 delta qC;go_in
 go_wp2_with (rw[<-HU.o])
 apply A.mono;rintro e X0 ⟨q,y0,n0,d0,i1,y2,n2,d2,i3,i4,y5,n5,d5,K,rfl,i,u⟩;let⟨g,a0,N,kl⟩:=nwb X0 #[qS y0 n0 d0,qI i1,qS y2 n2 d2,qI i3,qI i4,qS y5 n5 d5] 65;have a:=zh$ yT q N;have F:=zh a0;clear x0 A HU a0;have Z:=(W g a).1.mc;by_cases c:MOk M/\M.tn<1000000000
 .obtain rfl:K=true:=i.2 c.1;let⟨a1,c0,xs,a2,c2,a5,c5,ts,Y,lyt⟩:=u rfl;have h1:¬1000000000<=M.tn:=jK c.2;have d:=zh$ aIc M S ⟨M.L,a1,c0,xs,a2,c2,a5,c5,ts⟩ g (t g a).1 (t g a).2 c.1 (lyt.bw N) rfl c.2$ k c.1;have O:=zh (show tkX M=tkR M.cn M.L by unfold tkX;rw[if_pos c.1]);try dsimp only at d
  unfold oG at Y;unfold Lyb.v at d;try unfold oG at d
  rw[<-Y]at d;have l0:=kl.z6;clear q i u N kl Y lyt c k;go_wp2_with (rw[<-F.o])
  apply d.mono;rw[O.o];generalize tkR M.cn M.L=r at *;rintro e R ⟨b,s,a3,aP,L,β,rfl,G,f⟩;unfold mnV;have l:=(W _ a).2.bw b;have j:=l;unfold z15 at j;have r0:=j.mc;have rf:=j.frozen
  have Q:=zh (show MQ3 w (tkX M) (.returned$ .tuple #[.agg$ qA s,qI r.1,qI r.2.1]) (stM R (w.heap.size+1) s)by
   have B:=yT E a;rw[O.o]
   exact cX (yT B b) l J G$ xM B.size f)
  have x:=zh l;clear Z l0 b G f l j d;go_wp2;exact cY s rfl x rfl rfl rfl Q
 have O:=zh (show tkX M=(5,2,M.cn)by
  unfold tkX;by_cases p:MOk M
  .rw[if_pos p];unfold tkR;exact if_neg (λz=>c ⟨p,z⟩)
  .rw[if_neg p])
 have hc:K=false\/(K=true/\1000000000<=M.tn):=by
  by_cases p:MOk M
  .exact .inr ⟨i.2 p,by by_cases c3:M.tn<1000000000;exact absurd ⟨p,c3⟩ c;omega⟩
  .exact .inl (by cases K;rfl;exact absurd (i.1 rfl) p)
 have y:=zh$ bE M S g (t g a).2;clear q i u N kl c k;rcases hc with rfl|⟨rfl,h1⟩
 all_goals
  go_wp2_with (rw[<-F.o])
  apply y.mono;rintro e R ⟨b,s,a3,aP,L,β,rfl,G,f,V⟩;unfold mnV;have l:=(W _ a).2.bw b;have j:=l;unfold z15 at j;have r0:=j.mc;have rf:=j.frozen
  have Q:=zh (show MQ3 w (tkX M) (.returned$ .tuple #[.agg$ qA s,qI 5,qI 2]) (stM R (w.heap.size+1) s)by
   have B:=yT E a;rw[O.o]
   exact cX (yT B b) l J G$ xM B.size f)
  have x:=zh l;clear Z b G f V l j y;go_wp2;exact cY s rfl x rfl rfl rfl Q
